/- Several texts in one: SPlain, SGet, Cut5, SPut, SPut2, DropMath, WayMath, WayMath2, DueMath, PutMath, DropElse. -/
import Derived.Test.YtpneolgdghbinaaGreatQLearnsL29
namespace Go.Proofs.YtpneolgdghbinaaGreat
open Go.ChangeShapes Go.WideShapes Go.ChangeAt Go.RowKit Go.Joins
set_option linter.unusedVariables false
set_option linter.unusedSimpArgs false
set_option maxRecDepth 100000
set_option maxHeartbeats 40000000
theorem Q52 (b off c:Nat) (l:List Sl) (w:World) (M:b < w.heap.size) (hc:∀i,i < l.length→∀j,j < Q0g.k→w.cell? ⟨b,off+i * Q0g.k+j,none⟩=(Q0g.cs (l.getD i Q0g.d))[j]?) (hl:l.length≤1048576):
  Calls Tryz.prog 112 #[tab (.slice (some ⟨b,off,none⟩) l.length c)] w fun e w'=> ∃g,e=.returned (tab (.slice (some ⟨g,0,none⟩) l.length l.length))∧Qgc w' w.heap.size (.slice (some ⟨g,0,none⟩) l.length l.length) l∧Below w.heap.size w w':=by
 obtain ⟨i0,hi,am,an,ao⟩:=info_parts Q6Y;have HC:=Q01 hc;clear hc;obtain ⟨m,z⟩:∃W,((w.alloc (.cells #[.slice (some ⟨b,off,none⟩) l.length c] 89)).alloc (.cells #[.slice none 0 0] 32))=W:=⟨_,rfl⟩;have L:=alb0v0v2 z;have V:=Q01 L;clear L;have E:=alz0v0v2 z
 have I:m.cell? ⟨w.heap.size,0,none⟩=some (.slice (some ⟨b,off,none⟩) l.length c):=by rw [←z];simp [go_sem]
 have q:=alz0v1v2 z
 have H:m.cell? ⟨w.heap.size+1,0,none⟩=some (.slice none 0 0):=by rw [←z];simp [go_sem]
 have y:m.frozen? ⟨w.heap.size+1,0,none⟩=false:=by rw [←z];simp [go_sem]
 have U:=q;have aa:w.heap.size≤m.heap.size:=V.out.size;go_enter Tryz.func112,Tryz.ntmps112;go_wp2_with (at_make;refine wpList_make_full _ rfl _ _ 30 rfl m.heap.size 101 i0 (slot sl0) 5 Tryz.underlying30 hi am an _ _ _ _ l.length rfl rfl rfl rfl ?b2 ?b3 ?b4 ?_)
 case b2=> rw [ao];omega
 case b3=> unfold maxLen;omega
 case b4=> simp
 intro D O N;have r:Below m.heap.size m D:=(Below.refl _ _).grown N (Kaq _) (fun k h=> by cases h);have ae:=Q01 r
 have HO:Hid (D.ownsRow m.heap.size 101 5 (.slice (some ⟨m.heap.size,0,none⟩) l.length l.length) l.length ((Q3v Q0g l 0).flatMap Q0g.cs)):=by unfold Hid;rw [Q8L,←Q3A Q0g (slot sl0) rfl];exact O
 have zg:m.heap.size < D.heap.size:=(O.lt _ rfl).2;clear O N;replace I:=bKq0v0v0 r I E;replace E:w.heap.size < D.heap.size:=Kbq E r.size;replace H:=bKq0v0v0 r H q;replace y:D.frozen? ⟨w.heap.size+1,0,none⟩=false:=(r.frozen (p:=⟨w.heap.size+1,0,none⟩) q).trans y;replace q:w.heap.size+1 < D.heap.size:=Kbq q r.size;replace V:=Q01 (V.out.trans (r.mono V.out.size));clear r;obtain ⟨W2,F⟩:∃W,(D.alloc (.cells #[.slice (some ⟨m.heap.size,0,none⟩) l.length l.length] 32))=W:=⟨_,rfl⟩;have f:=alb0v0v1 F;replace I:=bKq0v0v0 f I E
 replace E:w.heap.size < W2.heap.size:=Kbq E f.size;replace H:=bKq0v0v0 f H q;replace y:W2.frozen? ⟨w.heap.size+1,0,none⟩=false:=(f.frozen (p:=⟨w.heap.size+1,0,none⟩) q).trans y;replace q:w.heap.size+1 < W2.heap.size:=Kbq q f.size;replace HO:=Q01 (Q03 HO.out f);replace V:=Q01 (V.out.trans (f.mono V.out.size));clear f;have ad:=alz0v0v1 F
 have ak:W2.cell? ⟨D.heap.size,0,none⟩=some (.slice (some ⟨m.heap.size,0,none⟩) l.length l.length):=by rw [←F];simp [go_sem]
 have b3:Hid _:=alx0v0v1 F
 have bR:Hid (W2.heap[w.heap.size+1]? =some (.cells #[.slice none 0 0] 32 (0,0))):=by
  have h:=World.alloc_heap_new (w.alloc (.cells #[.slice (some ⟨b,off,none⟩) l.length c] 89)) (.cells #[.slice none 0 0] 32);rw [z,World.size_alloc] at h;exact ((by rw [←F];exact (Below.heap_alloc _ _ _ (by omega)):W2.heap[w.heap.size+1]? =D.heap[w.heap.size+1]?)).trans ((ae.out.block _ U).trans h)
 have aF:=ad;go_wp2
 go_loopw [14] (fun i wr=> ∃k:Nat,k≤l.length∧i=.int .i64 k∧Hid (wr.ownsRow m.heap.size 101 5 (.slice (some ⟨m.heap.size,0,none⟩) l.length l.length) l.length ((Q3v Q0g l k).flatMap Q0g.cs))∧Hid (wr.heap[w.heap.size+1]? =some (.cells #[.slice none 0 0] 32 (0,0)))∧Hid (wr.heap[D.heap.size]? =some (.cells #[.slice (some ⟨m.heap.size,0,none⟩) l.length l.length] 32 (0,0)))∧Hid (Below w.heap.size w wr)∧D.heap.size < wr.heap.size)
  (fun i _=> l.length - (intOf i).toNat)
 case atStart=> exact ⟨0,Kcq _,rfl,HO,bR,b3,V,ad⟩
 case round=>
  clear HO bR b3 V ae I H y ak F z E q ad;obtain ⟨k,hk,rfl,HO,HR,HT,x,Z⟩:=hrel
  by_cases hlt:k < l.length
  ·obtain ⟨s,ac⟩:∃s,l.getD k sl0=s:=⟨_,rfl⟩
   have B:=RdL.slot (C:=w.heap.size) HC.out k hlt;rw [ac] at B;have e0:=(x.out.cell (p:=⟨b,off+k * 5,none⟩) M).trans B.1;have e1:=(x.out.cell (p:=⟨b,off+k * 5+1,none⟩) M).trans B.2.1;have e2:=(x.out.cell (p:=⟨b,off+k * 5+2,none⟩) M).trans B.2.2.1;have e3:=(x.out.cell (p:=⟨b,off+k * 5+3,none⟩) M).trans B.2.2.2.1;have e4:=(x.out.cell (p:=⟨b,off+k * 5+4,none⟩) M).trans B.2.2.2.2
   have ax:(k:Int) < (l.length:Int):=by omega
   have HX:=Q01 ac;clear B ac;obtain ⟨G,A⟩:∃W,wr.alloc (.cells (Q4D s) 165)=W:=⟨_,rfl⟩;have J:=alb0v0v1 A;have T:=alz0v0v1 A
   have s0:G.cell? ⟨wr.heap.size,0,none⟩=some (.bool s.u):=by rw [←A];simp [go_sem]
   have s1:G.cell? ⟨wr.heap.size,1,none⟩=some (.int .i64 s.a):=by rw [←A];simp [go_sem]
   have s2:G.cell? ⟨wr.heap.size,2,none⟩=some (.int .i64 s.p):=by rw [←A];simp [go_sem]
   have s3:G.cell? ⟨wr.heap.size,3,none⟩=some (.int .i64 s.v):=by rw [←A];simp [go_sem]
   have s4:G.cell? ⟨wr.heap.size,4,none⟩=some (.int .i64 s.t):=by rw [←A];simp [go_sem]
   have t3:G.cell? ⟨D.heap.size,0,none⟩=some (.slice (some ⟨m.heap.size,0,none⟩) l.length l.length):=(J.cell (p:=⟨D.heap.size,0,none⟩) Z).trans (Q0m HT.out 0 _ rfl);have ap:D.heap.size < G.heap.size:=Kbq Z J.size;have ag:=Q01 J;have P:=Q03 HO.out J;have al:=Qdm s G.drew
   have ay:((Q3v Q0g l k).flatMap Q0g.cs).length=l.length * 5:=by rw [Q0o,Q6s Q0g l k hk];rfl
   have ab:Hid (G.ownsRow m.heap.size 101 5 (.slice (some ⟨m.heap.size,0,none⟩) l.length l.length) l.length ((Q3v Q0g l k).flatMap Q0g.cs)):=P;clear P J;go_wp2
   first|(go_region_with (first|(go_at_call 158;refine al.mono ?_;rintro e w6 ⟨rfl,r⟩;replace r:Below G.heap.size G w6:=(Below.drew (Below.refl _ _)).trans r;have aE:=(r.cell (p:=⟨D.heap.size,0,none⟩) ap).trans t3;have s60:=(r.cell (p:=⟨wr.heap.size,0,none⟩) T).trans s0;have s61:=(r.cell (p:=⟨wr.heap.size,1,none⟩) T).trans s1;have s62:=(r.cell (p:=⟨wr.heap.size,2,none⟩) T).trans s2;have s63:=(r.cell (p:=⟨wr.heap.size,3,none⟩) T).trans s3;have s64:=(r.cell (p:=⟨wr.heap.size,4,none⟩) T).trans s4;have n:=Q03 ab.out r;obtain ⟨u0,az⟩:∃u,w6.cell? ⟨m.heap.size,k * 5,none⟩=some u:=⟨_,(n.cellAt (k * 5) (by omega)).trans (List.getElem?_eq_getElem (by omega))⟩;have aq:=n.frozenAt (k * 5);obtain ⟨u1,aA⟩:∃u,w6.cell? ⟨m.heap.size,k * 5+1,none⟩=some u:=⟨_,(n.cellAt (k * 5+1) (by omega)).trans (List.getElem?_eq_getElem (by omega))⟩;have ar:=n.frozenAt (k * 5+1);obtain ⟨u2,aB⟩:∃u,w6.cell? ⟨m.heap.size,k * 5+2,none⟩=some u:=⟨_,(n.cellAt (k * 5+2) (by omega)).trans (List.getElem?_eq_getElem (by omega))⟩;have au:=n.frozenAt (k * 5+2);obtain ⟨u3,aC⟩:∃u,w6.cell? ⟨m.heap.size,k * 5+3,none⟩=some u:=⟨_,(n.cellAt (k * 5+3) (by omega)).trans (List.getElem?_eq_getElem (by omega))⟩;have av:=n.frozenAt (k * 5+3);obtain ⟨u4,aD⟩:∃u,w6.cell? ⟨m.heap.size,k * 5+4,none⟩=some u:=⟨_,(n.cellAt (k * 5+4) (by omega)).trans (List.getElem?_eq_getElem (by omega))⟩;have aw:=n.frozenAt (k * 5+4);have aj:=Q01 r;have ah:=Q01 n;clear r n)))|fail
   all_goals have X:=Q01 (Q3m (k:=k) s (Kaq _) ah.out (Below.refl m.heap.size w6))
   all_goals have ai:=Q01 (show (Q3v Q0g l k).set k s=Q3v Q0g l (k+1) by rw [←HX.out];exact QaE Q0g l k hlt)
   all_goals have Y:=Q01 (ag.out.trans (aj.out.mono ag.out.size))
   all_goals go_wp2
   all_goals go_roundw
   all_goals first|(simp [intOf];omega;done)|exact ⟨k+1,hlt,by go_num,(by have h:=X.out.1;rw [ai.out] at h;exact h),(X.out.2.block _ U).trans ((Y.out.block _ (by omega)).trans HR.out),((((((Below.heap_setCell _ _ _ _ (by simp;omega)).trans (Below.heap_setCell _ _ _ _ (by simp;omega))).trans (Below.heap_setCell _ _ _ _ (by simp;omega))).trans (Below.heap_setCell _ _ _ _ (by simp;omega))).trans (Below.heap_setCell _ _ _ _ (by simp;omega))).trans ((Y.out.block _ Z).trans HT.out)),x.out.trans ((Y.out.mono x.out.size).trans (X.out.2.mono aa)),Kbq Z (Kdq Y.out.size X.out.2.size)⟩
  ·have e:k=l.length:=by omega
   subst e;have R:=HO.out;rw [QaC] at R;have af:=Q01 R;clear R HO;have r1:=Q0m HR.out 0 _ rfl;have f1:=Q2f HR.out 0;have t3:=Q0m HT.out 0 _ rfl;go_wp2;refine bodyPost_ret (v:=tab (.slice (some ⟨m.heap.size,0,none⟩) l.length l.length)) (by simp [results,Tryz.results112,go_sem,r1]) rfl ⟨_,rfl, ?_, ?_⟩
   ·exact Q04 (ownsRow_setCell_below af.out (show w.heap.size+1 < m.heap.size from U) _) aa
   ·exact x.out.setCell (p:=⟨w.heap.size+1,0,none⟩) (by simp) _
def Q8g (n:Int):List Sl:=if 1≤n∧n≤16 then List.replicate n.toNat sl0 else []
def Qca (n:Int):Bool:=decide (1≤n) && decide (n≤16)
theorem Qg6 (n:Int):(Q8g n).length≤16:=by
 unfold Q8g
 split
 ·rw [List.length_replicate];omega
 ·exact Kcq _
theorem Q6G (n:Int) (w:World):
  Calls Tryz.prog 172 #[.int .i64 n] w fun e B=> ∃v,e=.returned (.tuple #[v,.bool (Qca n)])∧InTb w.heap.size B.heap.size B v (Q8g n)∧Below w.heap.size w B:=by
 obtain ⟨F,hi,z,A,E⟩:=info_parts Q6Y;obtain ⟨g,i⟩:∃W,(w.alloc (.cells #[.slice none 0 0] 32))=W:=⟨_,rfl⟩;have b:=alb0v0v1 i;have q:=Q01 b;clear b;have f:=alz0v0v1 i
 have a:g.cell? ⟨w.heap.size,0,none⟩=some (.slice none 0 0):=by rw [←i];simp [go_sem]
 have j:g.frozen? ⟨w.heap.size,0,none⟩=false:=by rw [←i];simp [go_sem]
 by_cases hn:1≤n∧n≤16
 ·obtain ⟨m,rfl⟩:∃m:Nat,n=m:=⟨n.toNat,by omega⟩
  have x:=Q01 (show Q8g (m:Int)=List.replicate m sl0 by unfold Q8g;rw [if_pos hn];simp);have y:=Q01 (show Qca (m:Int)=true by simp [Qca];omega)
  have G:¬((m:Int) < 1):=by omega
  have H:¬(16 < (m:Int)):=by omega
  have u:=f;have s:=q.out.size;go_enter Tryz.func172,Tryz.ntmps172;go_wp2_with (at_make;refine wpList_make_full _ rfl _ _ 30 rfl g.heap.size 101 F (slot sl0) 5 Tryz.underlying30 hi z A _ _ _ _ m rfl rfl rfl rfl ?b2 ?b3 ?b4 ?_)
  case b2=> omega
  case b3=> unfold maxLen;omega
  intro t l c;have r:Below g.heap.size g t:=(Below.refl _ _).grown c (Kaq _) (fun k h=> by cases h)
  have C:Hid (Qgc t g.heap.size (.slice (some ⟨g.heap.size,0,none⟩) m m) (List.replicate m sl0)):=by
   unfold Hid Qgc ownL;rw [List.length_replicate]
   show t.ownsRow _ _ _ _ m ((List.replicate m Q0g.d).flatMap Q0g.cs)
   rw [←Q3A Q0g (slot sl0) rfl];exact l
  have D:=a;clear l c D;replace a:=bKq0v0v0 r a f;replace j:t.frozen? ⟨w.heap.size,0,none⟩=false:=(r.frozen (p:=⟨w.heap.size,0,none⟩) f).trans j;replace f:w.heap.size < t.heap.size:=Kbq f r.size;replace q:=Q01 (q.out.trans (r.mono q.out.size));clear r;go_wp2;refine bodyPost_ret (v:=.tuple #[tab (.slice (some ⟨g.heap.size,0,none⟩) m m),.bool true]) (by simp [results,Tryz.results172,go_sem,a]) rfl ⟨_,by rw [y.out],⟨_,rfl, ?_⟩, ?_⟩
  ·rw [x.out];exact InRow.of (Q04 (ownsRow_setCell_below C.out (show w.heap.size < g.heap.size from u) _) s)
  ·exact q.out.setCell (p:=⟨w.heap.size,0,none⟩) (Kaq _) _
 ·skip
  have x:=Q01 (show Q8g n=[] by unfold Q8g;rw [if_neg hn]);have y:=Q01 (show Qca n=false by simp [Qca];omega)
  by_cases h1:n < 1
  ·skip
   clear hn;go_enter Tryz.func172,Tryz.ntmps172;go_wp2;refine bodyPost_ret (v:=.tuple #[tab (.slice none 0 0),.bool false]) (by simp [results,Tryz.results172,go_sem,a]) rfl ⟨_,by rw [y.out],⟨_,rfl, ?_⟩, ?_⟩
   ·rw [x.out];exact InRow.of (World.ownsRow_nil _ _ _ _)
   ·exact q.out.setCell (p:=⟨w.heap.size,0,none⟩) (Kaq _) _
  ·have h2:16 < n:=by omega
   clear hn;go_enter Tryz.func172,Tryz.ntmps172;go_wp2;refine bodyPost_ret (v:=.tuple #[tab (.slice none 0 0),.bool false]) (by simp [results,Tryz.results172,go_sem,a]) rfl ⟨_,by rw [y.out],⟨_,rfl, ?_⟩, ?_⟩
   ·rw [x.out];exact InRow.of (World.ownsRow_nil _ _ _ _)
   ·exact q.out.setCell (p:=⟨w.heap.size,0,none⟩) (Kaq _) _
theorem Q6F (n:Int) (w:World):
  Calls Tryz.prog 98 #[.int .i64 n] w fun e z=> ∃v,e=.returned (.tuple #[v,.bool (Qca n)])∧InTb w.heap.size z.heap.size z v (Q8g n)∧Below w.heap.size w z:=by
 obtain ⟨x,k⟩:∃W,(w.alloc (.cells #[.slice none 0 0] 32))=W:=⟨_,rfl⟩;have f:=alb0v0v1 k;have j:=Q01 f;clear f;have a:=alz0v0v1 k
 have b:x.cell? ⟨w.heap.size,0,none⟩=some (.slice none 0 0):=by rw [←k];simp [go_sem]
 have c:x.frozen? ⟨w.heap.size,0,none⟩=false:=by rw [←k];simp [go_sem]
 by_cases hn:1≤n∧n≤16
 ·obtain ⟨m,rfl⟩:∃m:Nat,n=m:=⟨n.toNat,by omega⟩
  have t:=Q01 (show Q8g (m:Int)=List.replicate m sl0 by unfold Q8g;rw [if_pos hn];simp);have u:=Q01 (show Qca (m:Int)=true by simp [Qca];omega)
  have F:¬((m:Int) < 1):=by omega
  have G:¬(16 < (m:Int)):=by omega
  have C:=a;have A:=j.out.size
  have hm:m≤1048576:=by omega
  go_enter Tryz.func98,Tryz.ntmps98;go_wp2_with fail;refine (Q4e m x hm).mono ?_;rintro e s ⟨g,rfl,l,d⟩;have r:=Q01 l;clear l;replace b:=bKq0v0v0 d b a;replace c:s.frozen? ⟨w.heap.size,0,none⟩=false:=(d.frozen (p:=⟨w.heap.size,0,none⟩) a).trans c;replace a:w.heap.size < s.heap.size:=Kbq a d.size;replace j:=Q01 (j.out.trans (d.mono j.out.size));clear d;have q:=Q52 g 0 m (List.replicate m sl0) s (r.out.lt g rfl).2 (Q1r (by have h:=r.out;unfold ownL at h;rw [List.length_replicate] at h;exact h) (by simp)) (by simp;omega)
  rw [List.length_replicate] at q
  have E:x.heap.size≤s.heap.size:=by have:=r.out.lt g rfl;omega
  go_wp2_with fail;refine (q).mono ?_;rintro e B ⟨D,rfl,i,d⟩;have y:=Q01 i;clear i;replace b:=bKq0v0v0 d b a;replace c:B.frozen? ⟨w.heap.size,0,none⟩=false:=(d.frozen (p:=⟨w.heap.size,0,none⟩) a).trans c;replace a:w.heap.size < B.heap.size:=Kbq a d.size;replace r:=Q01 (Q03 r.out d);replace j:=Q01 (j.out.trans (d.mono j.out.size));clear d;clear q;go_wp2;refine bodyPost_ret (v:=.tuple #[tab (.slice (some ⟨D,0,none⟩) m m),.bool true]) (by simp [results,Tryz.results98,go_sem,b]) rfl ⟨_,by rw [u.out],⟨_,rfl, ?_⟩, ?_⟩
  ·rw [t.out];exact InRow.of (Q04 (ownsRow_setCell_below y.out (show w.heap.size < s.heap.size by omega) _) (by omega))
  ·exact j.out.setCell (p:=⟨w.heap.size,0,none⟩) (Kaq _) _
 ·skip
  have t:=Q01 (show Q8g n=[] by unfold Q8g;rw [if_neg hn]);have u:=Q01 (show Qca n=false by simp [Qca];omega)
  by_cases h1:n < 1
  ·skip
   clear hn;go_enter Tryz.func98,Tryz.ntmps98;go_wp2;refine bodyPost_ret (v:=.tuple #[tab (.slice none 0 0),.bool false]) (by simp [results,Tryz.results98,go_sem,b]) rfl ⟨_,by rw [u.out],⟨_,rfl, ?_⟩, ?_⟩
   ·rw [t.out];exact InRow.of (World.ownsRow_nil _ _ _ _)
   ·exact j.out.setCell (p:=⟨w.heap.size,0,none⟩) (Kaq _) _
  ·have h2:16 < n:=by omega
   clear hn;go_enter Tryz.func98,Tryz.ntmps98;go_wp2;refine bodyPost_ret (v:=.tuple #[tab (.slice none 0 0),.bool false]) (by simp [results,Tryz.results98,go_sem,b]) rfl ⟨_,by rw [u.out],⟨_,rfl, ?_⟩, ?_⟩
   ·rw [t.out];exact InRow.of (World.ownsRow_nil _ _ _ _)
   ·exact j.out.setCell (p:=⟨w.heap.size,0,none⟩) (Kaq _) _
theorem Qfp {l:List Sl} {a p:Int} (h:(Q0Z l a p).2=false):Q6a l a p=sl0:=by unfold Q6a;rw [h];rfl
theorem Qcq {l:List Sl} {a p:Int} {k:Nat} (h:Q0Z l a p=((k:Int),true)):Q6a l a p=l.getD k sl0:=by unfold Q6a;rw [h];simp
theorem Qid (b off c:Nat) (l:List Sl) (a p:Int) (w:World) (Y:0 < l.length) (hl:l.length≤1048576) (Z:Q0h a p=true) (H:b < w.heap.size) (X:∀i,i < l.length→∀j,j < Q0g.k→w.cell? ⟨b,off+i * Q0g.k+j,none⟩=(Q0g.cs (l.getD i Q0g.d))[j]?):
  Calls Tryz.prog 105 #[tab (.slice (some ⟨b,off,none⟩) l.length c),Q6f a p] w fun e w'=> e=.returned (.tuple #[slot (Q6a l a p),.bool (Q0Z l a p).2])∧Below w.heap.size w w':=by
 have U:=Q01 X;clear X;obtain ⟨V,G⟩:∃W,(((w.alloc (.cells #[.slice (some ⟨b,off,none⟩) l.length c] 89)).alloc (.cells #[.int .i64 a,.int .i64 p] 36)).alloc (.cells #[.bool false,.int .i64 0,.int .i64 0,.int .i64 0,.int .i64 0] 165))=W:=⟨_,rfl⟩;have O:=alb0v0v3 G;have x:=Q01 O;clear O;have F:=alz0v0v3 G
 have N:V.cell? ⟨w.heap.size,0,none⟩=some (.slice (some ⟨b,off,none⟩) l.length c):=by rw [←G];simp [go_sem]
 have m:=alz0v1v3 G;obtain ⟨L,M⟩:=alc2v1v3 G;have f:=alz0v2v3 G;obtain ⟨y,z,A,B,D⟩:=alc5v2v3 G;obtain ⟨n,q,r,t,u⟩:=alf5v2v3 G;have E:=Q4A b off c l a p V Y hl Z (Kbq H x.out.size) (fun i hi j hj=> (x.out.cell (p:=⟨b,off+i * Q0g.k+j,none⟩) H).trans (U.out i hi j hj))
 rcases Q1f l Y a p with J|⟨k,hk,⟨J,_⟩|⟨J,_⟩⟩
 ·skip
  have P:=Q01 (Qfp (l:=l) (a:=a) (p:=p) (by rw [J]));have R:=Q01 J;rw [J] at E;clear J;go_enter Tryz.func105,Tryz.ntmps105;go_wp2_with fail;refine (E).mono ?_;rintro e h ⟨rfl,g⟩;replace N:=bKq0v0v0 g N F;replace F:w.heap.size < h.heap.size:=Kbq F g.size;replace L:=bKq0v0v0 g L m;replace M:=bKq0v0v0 g M m;replace m:w.heap.size+1 < h.heap.size:=Kbq m g.size;replace y:=bKq0v0v0 g y f;replace z:=bKq0v0v0 g z f;replace A:=bKq0v0v0 g A f;replace B:=bKq0v0v0 g B f;replace D:=bKq0v0v0 g D f
  replace n:h.frozen? ⟨w.heap.size+1+1,0,none⟩=false:=(g.frozen (p:=⟨w.heap.size+1+1,0,none⟩) f).trans n;replace q:h.frozen? ⟨w.heap.size+1+1,1,none⟩=false:=(g.frozen (p:=⟨w.heap.size+1+1,1,none⟩) f).trans q;replace r:h.frozen? ⟨w.heap.size+1+1,2,none⟩=false:=(g.frozen (p:=⟨w.heap.size+1+1,2,none⟩) f).trans r;replace t:h.frozen? ⟨w.heap.size+1+1,3,none⟩=false:=(g.frozen (p:=⟨w.heap.size+1+1,3,none⟩) f).trans t;replace u:h.frozen? ⟨w.heap.size+1+1,4,none⟩=false:=(g.frozen (p:=⟨w.heap.size+1+1,4,none⟩) f).trans u
  replace f:w.heap.size+1+1 < h.heap.size:=Kbq f g.size;replace x:=Q01 (x.out.trans (g.mono x.out.size));clear g;clear E;go_wp2;refine bodyPost_ret (v:=.tuple #[slot sl0,.bool false]) (by simp [results,Tryz.results105,go_sem,y,z,A,B,D]) rfl ⟨by rw [P.out,R.out],Q2E (s:=sl0) x.out (by omega)⟩
 ·skip
  have P:=Q01 (Qfp (l:=l) (a:=a) (p:=p) (by rw [J]));have R:=Q01 J;rw [J] at E;clear J;go_enter Tryz.func105,Tryz.ntmps105;go_wp2_with fail;refine (E).mono ?_;rintro e h ⟨rfl,g⟩;replace N:=bKq0v0v0 g N F;replace F:w.heap.size < h.heap.size:=Kbq F g.size;replace L:=bKq0v0v0 g L m;replace M:=bKq0v0v0 g M m;replace m:w.heap.size+1 < h.heap.size:=Kbq m g.size;replace y:=bKq0v0v0 g y f;replace z:=bKq0v0v0 g z f;replace A:=bKq0v0v0 g A f;replace B:=bKq0v0v0 g B f;replace D:=bKq0v0v0 g D f
  replace n:h.frozen? ⟨w.heap.size+1+1,0,none⟩=false:=(g.frozen (p:=⟨w.heap.size+1+1,0,none⟩) f).trans n;replace q:h.frozen? ⟨w.heap.size+1+1,1,none⟩=false:=(g.frozen (p:=⟨w.heap.size+1+1,1,none⟩) f).trans q;replace r:h.frozen? ⟨w.heap.size+1+1,2,none⟩=false:=(g.frozen (p:=⟨w.heap.size+1+1,2,none⟩) f).trans r;replace t:h.frozen? ⟨w.heap.size+1+1,3,none⟩=false:=(g.frozen (p:=⟨w.heap.size+1+1,3,none⟩) f).trans t;replace u:h.frozen? ⟨w.heap.size+1+1,4,none⟩=false:=(g.frozen (p:=⟨w.heap.size+1+1,4,none⟩) f).trans u
  replace f:w.heap.size+1+1 < h.heap.size:=Kbq f g.size;replace x:=Q01 (x.out.trans (g.mono x.out.size));clear g;clear E;go_wp2;refine bodyPost_ret (v:=.tuple #[slot sl0,.bool false]) (by simp [results,Tryz.results105,go_sem,y,z,A,B,D]) rfl ⟨by rw [P.out,R.out],Q2E (s:=sl0) x.out (by omega)⟩
 ·skip
  have P:=Q01 (Qcq J);have R:=Q01 J;rw [J] at E;clear J;have I:=RdL.slot (C:=w.heap.size) U.out k hk;obtain ⟨s,T⟩:∃s,l.getD k sl0=s:=⟨_,rfl⟩;rw [T] at I P;clear T
  have aa:(k:Int) < (l.length:Int):=by omega
  go_enter Tryz.func105,Tryz.ntmps105;go_wp2_with fail;refine (E).mono ?_;rintro e h ⟨rfl,g⟩;replace N:=bKq0v0v0 g N F;replace F:w.heap.size < h.heap.size:=Kbq F g.size;replace L:=bKq0v0v0 g L m;replace M:=bKq0v0v0 g M m;replace m:w.heap.size+1 < h.heap.size:=Kbq m g.size;replace y:=bKq0v0v0 g y f;replace z:=bKq0v0v0 g z f;replace A:=bKq0v0v0 g A f;replace B:=bKq0v0v0 g B f;replace D:=bKq0v0v0 g D f;replace n:h.frozen? ⟨w.heap.size+1+1,0,none⟩=false:=(g.frozen (p:=⟨w.heap.size+1+1,0,none⟩) f).trans n
  replace q:h.frozen? ⟨w.heap.size+1+1,1,none⟩=false:=(g.frozen (p:=⟨w.heap.size+1+1,1,none⟩) f).trans q;replace r:h.frozen? ⟨w.heap.size+1+1,2,none⟩=false:=(g.frozen (p:=⟨w.heap.size+1+1,2,none⟩) f).trans r;replace t:h.frozen? ⟨w.heap.size+1+1,3,none⟩=false:=(g.frozen (p:=⟨w.heap.size+1+1,3,none⟩) f).trans t;replace u:h.frozen? ⟨w.heap.size+1+1,4,none⟩=false:=(g.frozen (p:=⟨w.heap.size+1+1,4,none⟩) f).trans u;replace f:w.heap.size+1+1 < h.heap.size:=Kbq f g.size;replace x:=Q01 (x.out.trans (g.mono x.out.size));clear g
  have e0:=(x.out.cell (p:=⟨b,off+k * 5,none⟩) H).trans I.1;have e1:=(x.out.cell (p:=⟨b,off+k * 5+1,none⟩) H).trans I.2.1;have e2:=(x.out.cell (p:=⟨b,off+k * 5+2,none⟩) H).trans I.2.2.1;have e3:=(x.out.cell (p:=⟨b,off+k * 5+3,none⟩) H).trans I.2.2.2.1;have e4:=(x.out.cell (p:=⟨b,off+k * 5+4,none⟩) H).trans I.2.2.2.2;clear E I;go_wp2;refine bodyPost_ret (v:=.tuple #[slot s,.bool true]) (by simp [results,Tryz.results105,go_sem,y,z,A,B,D]) rfl ⟨by rw [P.out,R.out],Q2E (s:=s) x.out (by omega)⟩
theorem Q4W (W:World) (B j:Nat) (v:Value):Stp B (B+1) W (W.setCell ⟨B,j,none⟩ v):=by
 have h:=(Below.refl B W).setCell (p:=⟨B,j,none⟩) (Kaq _) v;exact ⟨h.os,h.tape,h.output,h.size,fun k a b=> Below.heap_setCell W ⟨B,j,none⟩ v k (by simp;omega)⟩
theorem Qju:AppOk Q0g 30 101:=⟨Tryz.underlying30,⟨_,_,Q6Y,rfl,by decide⟩,by decide,fun a u hu=> by
 simp [Q0g] at hu;rcases hu with rfl|rfl|rfl|rfl|rfl <;> rfl⟩
theorem Stp.cell {lo hi b j:Nat} {w a:World} {u:Value} (s:Stp lo hi w a) (h:w.cell? ⟨b,j,none⟩=some u) (c:b < w.heap.size) (d:b < lo∨hi≤b):a.cell? ⟨b,j,none⟩=some u:=by
 have:=s.block b c d;simp only [World.cell?,this] at h ⊢;exact h
theorem Stp.frozen {lo hi b j:Nat} {w a:World} (s:Stp lo hi w a) (h:w.frozen? ⟨b,j,none⟩=false) (c:b < w.heap.size) (d:b < lo∨hi≤b):a.frozen? ⟨b,j,none⟩=false:=by
 have:=s.block b c d;simp only [World.frozen?,this] at h ⊢;exact h
theorem Q3e (W:World) (B k:Nat) (s:Sl):Stp B (B+1) W (((((W.setCell ⟨B,k * 5,none⟩ (.bool s.u)).setCell ⟨B,k * 5+1,none⟩ (.int .i64 s.a)).setCell ⟨B,k * 5+2,none⟩ (.int .i64 s.p)).setCell ⟨B,k * 5+3,none⟩ (.int .i64 s.v)).setCell ⟨B,k * 5+4,none⟩ (.int .i64 s.t)):=
 ((((Q4W W B _ _).trans (Q4W _ B _ _)).trans (Q4W _ B _ _)).trans (Q4W _ B _ _)).trans (Q4W _ B _ _)
theorem Q5O (b off c:Nat) (l:List Sl) (w:World) (E:b < w.heap.size) (R:∀i,i < l.length→∀j,j < Q0g.k→w.cell? ⟨b,off+i * Q0g.k+j,none⟩=(Q0g.cs (l.getD i Q0g.d))[j]?) (hl:l.length≤1048576):
  Calls Tryz.prog 170 #[tab (.slice (some ⟨b,off,none⟩) l.length c)] w fun e U=> ∃T P,e=.returned (tab (.slice T l.length P))∧Qgc U w.heap.size (.slice T l.length P) l∧Below w.heap.size w U:=by
 have X:=Q01 R;clear R;obtain ⟨m,g⟩:∃W,((w.alloc (.cells #[.slice (some ⟨b,off,none⟩) l.length c] 32)).alloc (.cells #[.slice none 0 0] 32))=W:=⟨_,rfl⟩;have n:=alb0v0v2 g;have B:=Q01 n;clear n;have A:=alz0v0v2 g
 have D:m.cell? ⟨w.heap.size,0,none⟩=some (.slice (some ⟨b,off,none⟩) l.length c):=by rw [←g];simp [go_sem]
 have r:=alz0v1v2 g
 have s:m.cell? ⟨w.heap.size+1,0,none⟩=some (.slice none 0 0):=by rw [←g];simp [go_sem]
 have f:m.frozen? ⟨w.heap.size+1,0,none⟩=false:=by rw [←g];simp [go_sem]
 have J:=Q01 r;have x:=B.out.size;obtain ⟨y,z⟩:∃W,m.alloc (.cells #[] 101)=W:=⟨_,rfl⟩
 have H:Hid (ownL Q0g 101 y m.heap.size (.slice (some ⟨m.heap.size,0,none⟩) 0 0) []):=by rw [←z];exact Q3z (L:=Q0g) m _
 have a:=alb0v0v1 z;replace D:=bKq0v0v0 a D A;replace A:w.heap.size < y.heap.size:=Kbq A a.size;replace s:=bKq0v0v0 a s r;replace f:y.frozen? ⟨w.heap.size+1,0,none⟩=false:=(a.frozen (p:=⟨w.heap.size+1,0,none⟩) r).trans f;replace r:w.heap.size+1 < y.heap.size:=Kbq r a.size;replace B:=Q01 (B.out.trans (a.mono B.out.size));clear a
 have u:m.heap.size≤y.heap.size:=by rw [←z];simp
 have O:Hid (RdL Q0g w.heap.size y (some ⟨b,off,none⟩) l):=.inr ⟨b,off,rfl,E,fun i hi j Z=> (B.out.cell (p:=⟨b,off+i * Q0g.k+j,none⟩) E).trans (X.out i hi j Z)⟩;go_enter Tryz.func170,Tryz.ntmps170;go_wp2_with (at_builtin;refine Q08 Qju rfl _ _ rfl m.heap.size _ [] rfl H.out (some ⟨b,off,none⟩) c w.heap.size l l.length rfl rfl (fun h=> by cases h) O.out ?c1 ?c2 ?_)
 case c1=> simp;omega
 case c2=> exact u
 intro v2 V t F _
 (try rw [List.nil_append] at t)
 have G:Below m.heap.size y V:=(Below.refl _ _).grown F u (fun q h=> (H.out.lt q h).1);have Y:=Q01 t;obtain ⟨o2,c2,N,_⟩:=ownL.open (L:=Q0g) t;subst N;have C:=bKq0v0v0 G s J.out;have M:V.frozen? ⟨w.heap.size+1,0,none⟩=false:=(G.frozen (p:=⟨w.heap.size+1,0,none⟩) J.out).trans f;have I:=Q01 (B.out.trans (G.mono x));clear t F G H s f;go_wp2;refine bodyPost_ret (v:=tab (.slice o2 l.length c2)) (by simp [results,Tryz.results170,go_sem,C]) rfl ⟨_,_,rfl, ?_, ?_⟩
 ·exact Q04 (ownsRow_setCell_below Y.out (show w.heap.size+1 < m.heap.size from J.out) _) x
 ·exact I.out.setCell (p:=⟨w.heap.size+1,0,none⟩) (by simp) _
theorem QbJ {l:List Sl} {a p v t:Int} (h:(Q0Z l a p).1 < 0):Q4d l a p v t=l:=by unfold Q4d;rw [if_neg (by omega)]
theorem Q5w {l:List Sl} {a p v t:Int} {k:Nat} (h:(Q0Z l a p).1=(k:Int)):Q4d l a p v t=l.set k ⟨true,a,p,v,t⟩:=by unfold Q4d;rw [if_pos (by omega),h];simp
theorem Q6e (l:List Sl) (c:0 < l.length) (a p:Int):(Q0Z l a p).1= -1∨∃k,k < l.length∧(Q0Z l a p).1=(k:Int):=by
 rcases Q1f l c a p with e|⟨k,b,⟨e,_⟩|⟨e,_⟩⟩
 ·exact .inl (by rw [e])
 ·exact .inr ⟨k,b,by rw [e]⟩
 ·exact .inr ⟨k,b,by rw [e]⟩
theorem Q6c (b off c:Nat) (l:List Sl) (a p v t:Int) (w:World) (hn:0 < l.length) (hl:l.length≤1048576) (hf:Q0h a p=true) (M:b < w.heap.size) (hc:∀i,i < l.length→∀j,j < Q0g.k→w.cell? ⟨b,off+i * Q0g.k+j,none⟩=(Q0g.cs (l.getD i Q0g.d))[j]?):
  Calls Tryz.prog 166 #[tab (.slice (some ⟨b,off,none⟩) l.length c),Q6f a p,.int .i64 v,.int .i64 t] w fun e w'=> ∃Y P c',e=.returned (.tuple #[tab (.slice (some ⟨Y,P,none⟩) l.length c'),.bool (decide (0≤(Q0Z l a p).1))])∧Y < w'.heap.size∧(∀i,i < (Q4d l a p v t).length→∀j,j < Q0g.k→w'.cell? ⟨Y,P+i * Q0g.k+j,none⟩=(Q0g.cs ((Q4d l a p v t).getD i Q0g.d))[j]?)∧Below w.heap.size w w'∧(Y=b∨w.heap.size≤Y):=by
 have HC:=Q01 hc;clear hc;obtain ⟨W0,C⟩:∃W,(((w.alloc (.cells #[.slice (some ⟨b,off,none⟩) l.length c] 32)).alloc (.cells #[.int .i64 a,.int .i64 p] 36)).alloc (.cells #[.slice none 0 0] 32))=W:=⟨_,rfl⟩;have L:=alb0v0v3 C;have y:=Q01 L;clear L;have s:=alz0v0v3 C
 have B:W0.cell? ⟨w.heap.size,0,none⟩=some (.slice (some ⟨b,off,none⟩) l.length c):=by rw [←C];simp [go_sem]
 have n:=alz0v1v3 C;obtain ⟨z,A⟩:=alc2v1v3 C;have m:=alz0v2v3 C
 have x:W0.cell? ⟨w.heap.size+1+1,0,none⟩=some (.slice none 0 0):=by rw [←C];simp [go_sem]
 have q:W0.frozen? ⟨w.heap.size+1+1,0,none⟩=false:=by rw [←C];simp [go_sem]
 have D:=Q9w (some ⟨b,off,none⟩) c l a p W0 (.inr ⟨b,off,rfl,Kbq M y.out.size,(fun i hi j hj=> (y.out.cell (p:=⟨b,off+i * Q0g.k+j,none⟩) M).trans (HC.out i hi j hj))⟩) hn hl hf;obtain ⟨E,hE⟩:∃E,Q0Z l a p=E:=⟨_,rfl⟩;have HZ:=Q01 m;have am:=y.out.size
 rcases Q6e l hn a p with O|⟨k,hk,O⟩
 ·skip
  have HP:=Q01 (QbJ (l:=l) (a:=a) (p:=p) (v:=v) (t:=t) (by rw [O];decide));have HD:=Q01 (show decide (0≤(Q0Z l a p).1)=false by rw [O];rfl);rw [O] at D;generalize (Q0Z l a p).2=E2 at D;clear hE;go_enter Tryz.func166,Tryz.ntmps166;go_wp2_with fail;refine (D).mono ?_;rintro e H ⟨rfl,r⟩;replace B:=bKq0v0v0 r B s;replace s:w.heap.size < H.heap.size:=Kbq s r.size;replace z:=bKq0v0v0 r z n;replace A:=bKq0v0v0 r A n;replace n:w.heap.size+1 < H.heap.size:=Kbq n r.size;replace x:=bKq0v0v0 r x m
  replace q:H.frozen? ⟨w.heap.size+1+1,0,none⟩=false:=(r.frozen (p:=⟨w.heap.size+1+1,0,none⟩) m).trans q;replace m:w.heap.size+1+1 < H.heap.size:=Kbq m r.size;replace y:=Q01 (y.out.trans (r.mono y.out.size));clear r;clear D;go_wp2;refine bodyPost_ret (v:=.tuple #[tab (.slice (some ⟨b,off,none⟩) l.length c),.bool false]) (by simp [results,Tryz.results166,go_sem,x]) rfl ⟨b,off,c,by rw [HD.out], ?_, ?_, ?_,.inl rfl⟩
  ·have:=y.out.size;simp;omega
  ·rw [HP.out]
   intro i hi j hj;have ae:=y.out.setCell (p:=⟨w.heap.size+1+1,0,none⟩) (by simp <;> omega) (.slice (some ⟨b,off,none⟩) l.length c);exact (ae.cell (p:=⟨b,off+i * Q0g.k+j,none⟩) M).trans (HC.out i hi j hj)
  ·exact y.out.setCell (p:=⟨w.heap.size+1+1,0,none⟩) (by simp <;> omega) _
 ·skip
  have HP:=Q01 (Q5w (l:=l) (a:=a) (p:=p) (v:=v) (t:=t) O);have HD:=Q01 (show decide (0≤(Q0Z l a p).1)=true by rw [O];simp);rw [O] at D;generalize (Q0Z l a p).2=E2 at D;clear hE O
  have av:(k:Int) < (l.length:Int):=by omega
  go_enter Tryz.func166,Tryz.ntmps166;go_wp2_with fail;refine (D).mono ?_;rintro e H ⟨rfl,r⟩;replace B:=bKq0v0v0 r B s;replace s:w.heap.size < H.heap.size:=Kbq s r.size;replace z:=bKq0v0v0 r z n;replace A:=bKq0v0v0 r A n;replace n:w.heap.size+1 < H.heap.size:=Kbq n r.size;replace x:=bKq0v0v0 r x m;replace q:H.frozen? ⟨w.heap.size+1+1,0,none⟩=false:=(r.frozen (p:=⟨w.heap.size+1+1,0,none⟩) m).trans q;replace m:w.heap.size+1+1 < H.heap.size:=Kbq m r.size;replace y:=Q01 (y.out.trans (r.mono y.out.size));clear r;go_wp2_with fail
  refine (Q5O b off c l H (Kbq M y.out.size) (fun i hi j hj=> (y.out.cell (p:=⟨b,off+i * Q0g.k+j,none⟩) M).trans (HC.out i hi j hj)) hl).mono ?_;rintro e U ⟨o2,c2,rfl,N,r⟩;have G:=Q01 m
  obtain ⟨g,c3,ai⟩:∃g c3,Value.slice o2 l.length c2=.slice (some ⟨g,0,none⟩) l.length c3:=by
   rcases N.2 with ⟨_,h0⟩|⟨g,c3,_,h0,_⟩
   ·exact absurd h0 (by omega)
   ·exact ⟨g,c3,h0⟩
  injection ai with hv1 hv2 hv3;subst hv1 hv3;have V:=Q01 N;clear N;replace B:=bKq0v0v0 r B s;replace s:w.heap.size < U.heap.size:=Kbq s r.size;replace z:=bKq0v0v0 r z n;replace A:=bKq0v0v0 r A n;replace n:w.heap.size+1 < U.heap.size:=Kbq n r.size;replace x:=bKq0v0v0 r x m;replace q:U.frozen? ⟨w.heap.size+1+1,0,none⟩=false:=(r.frozen (p:=⟨w.heap.size+1+1,0,none⟩) m).trans q;replace m:w.heap.size+1+1 < U.heap.size:=Kbq m r.size;replace y:=Q01 (y.out.trans (r.mono y.out.size));clear r;have ab:=V
  obtain ⟨F,T⟩:∃W,(U.alloc (.cells #[.slice (some ⟨g,0,none⟩) l.length c2] 32))=W:=⟨_,rfl⟩;have f:=alb0v0v1 T;replace B:=bKq0v0v0 f B s;replace s:w.heap.size < F.heap.size:=Kbq s f.size;replace z:=bKq0v0v0 f z n;replace A:=bKq0v0v0 f A n;replace n:w.heap.size+1 < F.heap.size:=Kbq n f.size;replace x:=bKq0v0v0 f x m;replace q:F.frozen? ⟨w.heap.size+1+1,0,none⟩=false:=(f.frozen (p:=⟨w.heap.size+1+1,0,none⟩) m).trans q;replace m:w.heap.size+1+1 < F.heap.size:=Kbq m f.size;replace V:=Q01 (Q03 V.out f)
  replace y:=Q01 (y.out.trans (f.mono y.out.size));clear f;have ak:=alz0v0v1 T
  have ac:F.cell? ⟨U.heap.size,0,none⟩=some (.slice (some ⟨g,0,none⟩) l.length c2):=by rw [←T];simp [go_sem]
  have ag:=(V.out.lt g rfl);have J:F.ownsRow H.heap.size 101 5 (.slice (some ⟨g,0,none⟩) l.length c2) l.length (l.flatMap Q0g.cs):=V.out
  have ah:(l.flatMap Q0g.cs).length=l.length * 5:=by rw [Q0o];rfl
  obtain ⟨u0,aw⟩:∃u,F.cell? ⟨g,k * 5,none⟩=some u:=⟨_,(J.cellAt (k * 5) (by omega)).trans (List.getElem?_eq_getElem (by omega))⟩;have ao:=J.frozenAt (k * 5);obtain ⟨u1,ax⟩:∃u,F.cell? ⟨g,k * 5+1,none⟩=some u:=⟨_,(J.cellAt (k * 5+1) (by omega)).trans (List.getElem?_eq_getElem (by omega))⟩;have ap:=J.frozenAt (k * 5+1);obtain ⟨u2,ay⟩:∃u,F.cell? ⟨g,k * 5+2,none⟩=some u:=⟨_,(J.cellAt (k * 5+2) (by omega)).trans (List.getElem?_eq_getElem (by omega))⟩;have aq:=J.frozenAt (k * 5+2)
  obtain ⟨u3,az⟩:∃u,F.cell? ⟨g,k * 5+3,none⟩=some u:=⟨_,(J.cellAt (k * 5+3) (by omega)).trans (List.getElem?_eq_getElem (by omega))⟩;have ar:=J.frozenAt (k * 5+3);obtain ⟨u4,aA⟩:∃u,F.cell? ⟨g,k * 5+4,none⟩=some u:=⟨_,(J.cellAt (k * 5+4) (by omega)).trans (List.getElem?_eq_getElem (by omega))⟩;have au:=J.frozenAt (k * 5+4);have HS:=Q01 (Q3m (k:=k) ⟨true,a,p,v,t⟩ (Kaq g) J (Below.refl g F));have X:=Q01 (Q3e F g k ⟨true,a,p,v,t⟩);clear J ah D
  obtain ⟨W3,Z⟩:∃W,((((F.setCell ⟨g,k * 5,none⟩ (.bool true)).setCell ⟨g,k * 5+1,none⟩ (.int .i64 a)).setCell ⟨g,k * 5+2,none⟩ (.int .i64 p)).setCell ⟨g,k * 5+3,none⟩ (.int .i64 v)).setCell ⟨g,k * 5+4,none⟩ (.int .i64 t)=W:=⟨_,rfl⟩
  have R:Hid (W3.ownsRow H.heap.size 101 5 (.slice (some ⟨g,0,none⟩) l.length c2) l.length ((l.set k ⟨true,a,p,v,t⟩).flatMap Q0g.cs)):=by rw [←Z];exact HS.out.1
  have I:Hid (Stp g (g+1) F W3):=by rw [←Z];exact X.out
  have aa:H.heap.size≤g:=ag.1
  have aj:g+1≤U.heap.size:=by have h:=(ab.out.lt g rfl).2;omega
  have an:=I.out.cell ac ak (.inr aj);have ad:=I.out.cell x m (.inl (show w.heap.size+1+1 < g from Kbq G.out aa));have al:=I.out.frozen q m (.inl (show w.heap.size+1+1 < g from Kbq G.out aa));have af:Hid (Below w.heap.size F W3):=I.out.below (by have:=G.out;omega) (by have:=G.out;omega)
  have aB:w.heap.size≤H.heap.size:=by have:=G.out;omega
  clear x q HS X;go_wp2;refine bodyPost_ret (v:=.tuple #[tab (.slice (some ⟨g,0,none⟩) l.length c2),.bool true]) (by simp [results,Tryz.results166,go_sem,ad]) rfl ⟨g,0,c2,by rw [HD.out], ?_, ?_, ?_,.inr (by have O:=(R.out.lt g rfl).1;have h2:=G.out;omega)⟩
  ·have h:=(R.out.lt g rfl).2;simpa using h
  ·rw [HP.out]
   have h:=ownsRow_setCell_below R.out (a:=⟨w.heap.size+1+1,0,none⟩) (show w.heap.size+1+1 < H.heap.size from G.out) (.slice (some ⟨g,0,none⟩) l.length c2);exact Q1r h (by simp)
  ·exact (y.out.trans af.out).setCell (p:=⟨w.heap.size+1+1,0,none⟩) (by simp <;> omega) _
def Qjf (l:List Sl) (a p v t:Int):Bool:=Q0c l && Q0h a p && Q7n v t
def putB (l:List Sl) (a p v t:Int):Bool:=if Qjf l a p v t=true then decide (0≤(Q0Z l a p).1) else false
theorem Qe8 (g c base:Nat) (l:List Sl) (a p v t:Int) (w:World) (I:0 < l.length) (X:l.length≤1048576) (M:Q0h a p=true) (i:w.ownsRow base Q1F 5 (.slice (some ⟨g,0,none⟩) l.length c) l.length (l.flatMap Q0g.cs)):
  Calls Tryz.prog 109 #[tab (.slice (some ⟨g,0,none⟩) l.length c),Q6f a p,Qhs v t] w fun e J=> e=.returned (.bool (decide (0≤(Q0Z l a p).1)))∧J.ownsRow base Q1F 5 (.slice (some ⟨g,0,none⟩) l.length c) l.length ((Q4d l a p v t).flatMap Q0g.cs)∧Stp g (g+1) w J:=by
 have r:=Q01 i;have U:=(i.lt g rfl).2;clear i;obtain ⟨H,j⟩:∃W,(((w.alloc (.cells #[.slice (some ⟨g,0,none⟩) l.length c] 89)).alloc (.cells #[.int .i64 a,.int .i64 p] 36)).alloc (.cells #[.int .i64 v,.int .i64 t] 138))=W:=⟨_,rfl⟩;have m:=alb0v0v3 j;replace r:=Q01 (Q03 r.out m);have C:=Q01 m;clear m;have q:=alz0v0v3 j
 have A:H.cell? ⟨w.heap.size,0,none⟩=some (.slice (some ⟨g,0,none⟩) l.length c):=by rw [←j];simp [go_sem]
 have f:=alz0v1v3 j;obtain ⟨s,x⟩:=alc2v1v3 j;have h:=alz0v2v3 j;obtain ⟨y,z⟩:=alc2v2v3 j;have d:=Q4A g 0 c l a p H I X M (r.out.lt g rfl).2 (Q1r r.out rfl)
 rcases Q6e l I a p with B|⟨k,hk,B⟩
 ·skip
  have E:=Q01 (QbJ (l:=l) (a:=a) (p:=p) (v:=v) (t:=t) (by rw [B];decide));have D:=Q01 (show decide (0≤(Q0Z l a p).1)=false by rw [B];rfl);rw [B] at d;generalize (Q0Z l a p).2=E2 at d;clear B;go_enter Tryz.func109,Tryz.ntmps109;go_wp2_with fail;refine (d).mono ?_;rintro e n ⟨rfl,b⟩;replace A:=bKq0v0v0 b A q;replace q:w.heap.size < n.heap.size:=Kbq q b.size;replace s:=bKq0v0v0 b s f;replace x:=bKq0v0v0 b x f;replace f:w.heap.size+1 < n.heap.size:=Kbq f b.size;replace y:=bKq0v0v0 b y h;replace z:=bKq0v0v0 b z h
  replace h:w.heap.size+1+1 < n.heap.size:=Kbq h b.size;replace r:=Q01 (Q03 r.out b);replace C:=Q01 (C.out.trans (b.mono C.out.size));clear b;clear d;go_wp2;go_ret;exact ⟨by rw [D.out];rfl,by rw [E.out];exact r.out,Stp.of C.out⟩
 ·skip
  have E:=Q01 (Q5w (l:=l) (a:=a) (p:=p) (v:=v) (t:=t) B);have D:=Q01 (show decide (0≤(Q0Z l a p).1)=true by rw [B];simp);rw [B] at d;generalize (Q0Z l a p).2=E2 at d;clear B
  have V:(k:Int) < (l.length:Int):=by omega
  go_enter Tryz.func109,Tryz.ntmps109;go_wp2_with fail;refine (d).mono ?_;rintro e n ⟨rfl,b⟩;replace A:=bKq0v0v0 b A q;replace q:w.heap.size < n.heap.size:=Kbq q b.size;replace s:=bKq0v0v0 b s f;replace x:=bKq0v0v0 b x f;replace f:w.heap.size+1 < n.heap.size:=Kbq f b.size;replace y:=bKq0v0v0 b y h;replace z:=bKq0v0v0 b z h;replace h:w.heap.size+1+1 < n.heap.size:=Kbq h b.size;replace r:=Q01 (Q03 r.out b);replace C:=Q01 (C.out.trans (b.mono C.out.size));clear b
  have i:n.ownsRow base Q1F 5 (.slice (some ⟨g,0,none⟩) l.length c) l.length (l.flatMap Q0g.cs):=r.out
  have G:(l.flatMap Q0g.cs).length=l.length * 5:=by rw [Q0o];rfl
  obtain ⟨u0,Y⟩:∃u,n.cell? ⟨g,k * 5,none⟩=some u:=⟨_,(i.cellAt (k * 5) (by omega)).trans (List.getElem?_eq_getElem (by omega))⟩;have N:=i.frozenAt (k * 5);obtain ⟨u1,Z⟩:∃u,n.cell? ⟨g,k * 5+1,none⟩=some u:=⟨_,(i.cellAt (k * 5+1) (by omega)).trans (List.getElem?_eq_getElem (by omega))⟩;have O:=i.frozenAt (k * 5+1);obtain ⟨u2,aa⟩:∃u,n.cell? ⟨g,k * 5+2,none⟩=some u:=⟨_,(i.cellAt (k * 5+2) (by omega)).trans (List.getElem?_eq_getElem (by omega))⟩;have P:=i.frozenAt (k * 5+2)
  obtain ⟨u3,ab⟩:∃u,n.cell? ⟨g,k * 5+3,none⟩=some u:=⟨_,(i.cellAt (k * 5+3) (by omega)).trans (List.getElem?_eq_getElem (by omega))⟩;have R:=i.frozenAt (k * 5+3);obtain ⟨u4,ac⟩:∃u,n.cell? ⟨g,k * 5+4,none⟩=some u:=⟨_,(i.cellAt (k * 5+4) (by omega)).trans (List.getElem?_eq_getElem (by omega))⟩;have T:=i.frozenAt (k * 5+4);have L:=Q01 (Q3m (k:=k) ⟨true,a,p,v,t⟩ (Kaq g) i (Below.refl g n));have F:=Q01 ((Stp.of (lo:=g) (hi:=g+1) C.out).trans (Q3e n g k ⟨true,a,p,v,t⟩));clear i G d;go_wp2;go_ret;exact ⟨by rw [D.out];rfl,by rw [E.out];exact L.out.1,F.out⟩
theorem Stp.drew {lo hi:Nat} {w w':World} (h:Stp lo hi w w'):Stp lo hi w w'.drew:=⟨h.os,h.tape,h.output,h.size,h.block⟩
def Q4E (m:List Sl):Prop:=∀j,j < m.length→(m.getD j sl0).u=true→Q0h (m.getD j sl0).a (m.getD j sl0).p=true
theorem Q2l {l:List Sl} (h:Q0c l=true):Q4E l:=fun j hj hu=> by
 have ht:=(Q07.1 h).2.2 j hj;unfold Q3K at ht;exact ((Q3Q hu).1 ((Bool.and_eq_true _ _).mp ht).1).1
theorem Q5d {m:List Sl} (h:Q4E m) (i:Nat) (s:Sl) (hs:s.u=true→Q0h s.a s.p=true):Q4E (m.set i s):=fun j c b=> by
 rw [List.length_set] at c
 by_cases e:i=j
 ·subst e
  rw [Q0Y _ _ _ c] at b ⊢;exact hs b
 ·rw [Q1L _ _ _ _ e] at b ⊢
  exact h j c b
structure DropInv (n:Nat) (R:List Sl) (g:Nat) (m:List Sl) (i k:Nat):Prop where
 len:m.length=n
 le:n≤16
 hi:i < n
 hk:k < n
 free:(m.getD i sl0).u=false
 ok:Q4E m
 go:Q2B n (g+1) m i k=R
 ms:Qeb m i k≤g
theorem DropInv.done {n g i k:Nat} {R m:List Sl} (h:DropInv n R g m i k) (hu:(m.getD k sl0).u=false):m=R:=by
 rw [←h.go,QdC hu]
theorem DropInv.move {n g i k:Nat} {R m:List Sl} (h:DropInv n R g m i k) (p:(m.getD k sl0).u=true) (hm:Q4Z n m i k=true):1≤g∧DropInv n R (g - 1) ((m.set i (m.getD k sl0)).set k sl0) k ((k+1) % n):=by
 obtain ⟨c,b,hi,f,a,d,j,r⟩:=h;subst c;have s:=QdT b hi f a p hm
 have q:1≤g:=by omega
 refine ⟨q,by simp,b,f,Q3p (by omega) k, ?_, ?_, ?_, ?_⟩
 ·rw [Q0Y _ _ _ (by simpa using f)]
 ·exact Q5d (Q5d d i _ (fun l=> d k f l)) k _ (fun l=> by cases l)
 ·rw [←j,Qbj p hm,show g - 1+1=g by omega]
 ·omega
theorem DropInv.stay {n g i k:Nat} {R m:List Sl} (h:DropInv n R g m i k) (l:(m.getD k sl0).u=true) (hm:Q4Z n m i k=false):1≤g∧DropInv n R (g - 1) m i ((k+1) % n):=by
 obtain ⟨b,d,hi,q,a,j,c,r⟩:=h;subst b
 have f:k≠i:=fun e=> by rw [e,a] at l;cases l
 have s:=Qfe hi q f
 have p:1≤g:=by omega
 refine ⟨p,rfl,d,hi,Q3p (by omega) k,a,j, ?_,by omega⟩;rw [←c,QbD l hm,show g - 1+1=g by omega]
theorem DropInv.start {l:List Sl} {i:Nat} (a:l.length≤16) (hi:i < l.length) (b:Q4E l):DropInv l.length (Q1M l i) (Qeb (l.set i sl0) i ((i+1) % l.length)) (l.set i sl0) i ((i+1) % l.length):=
 ⟨by simp,a,hi,Q3p (by omega) i,by rw [Q0Y _ _ _ hi],Q5d b i _ (fun h=> by cases h),rfl,Kaq _⟩
theorem Qaw {n i k:Nat} {m:List Sl}:Q4Z n m i k=true↔Q1C n i k≤Q1C n (Q0S n (m.getD k sl0).a (m.getD k sl0).p) k:=by simp [Q4Z]
theorem Q3W (n:Nat):∀(f:Nat) (l:List Sl) (i k:Nat),(Q2B n f l i k).length=l.length
 |0,l,i,k=> rfl
 |f+1,l,i,k=> by
  unfold Q2B
  split
  ·split
   ·rw [Q3W n f];simp
   ·rw [Q3W n f]
  ·rfl
theorem Q2s (l:List Sl) (i:Nat):(Q1M l i).length=l.length:=by unfold Q1M;rw [Q3W];simp
def Q48 (l:List Sl) (a p:Int):List Sl:=if (Q0Z l a p).2=true then Q1M l (Q0Z l a p).1.toNat else l
theorem Qat (l:List Sl) (a p:Int):(Q48 l a p).length=l.length:=by
 unfold Q48
 split
 ·exact Q2s _ _
 ·rfl
theorem Q6T {l:List Sl} {a p:Int} (h:(Q0Z l a p).2=false):Q48 l a p=l:=by unfold Q48;rw [h];rfl
theorem Q5P {l:List Sl} {a p:Int} {k:Nat} (h:Q0Z l a p=((k:Int),true)):Q48 l a p=Q1M l k:=by unfold Q48;rw [h];simp
theorem Q4H {n h d:Nat} (a:h < n) (b:d < n):Q1C n h ((h+d) % n)=d:=by
 by_cases e:h+d < n
 ·rw [Q2M e,Q14 a e,if_pos (by omega)];omega
 ·rw [Q9o (by omega) (by omega),Q14 a (by omega)]
  split <;> omega
theorem Q4U {n h x:Nat} (hh:h < n) (hx:x < n):(h+Q1C n h x) % n=x:=by
 rw [Q14 hh hx]
 split
 ·rw [Q2M (by omega)];omega
 ·rw [Q9o (by omega) (by omega)];omega
theorem QeB {n h x:Nat} (hh:h < n) (hx:x < n):Q1C n h x < n:=Nat.mod_lt _ (by omega)
theorem QfK {n h x y:Nat} (hh:h < n) (hx:x < n) (hy:y < n) (e:Q1C n h x=Q1C n h y):x=y:=by
 rw [←Q4U hh hx,e,Q4U hh hy]
theorem Qhn {n h i k:Nat} (hh:h < n) (hi:i < n) (hk:k < n) (hne:i≠k):Q1C n h i < Q1C n h k↔Q1C n i k≤Q1C n h k:=by
 rw [Q14 hh hi,Q14 hh hk,Q14 hi hk]
 (repeat' split) <;> omega
theorem Qic {n h i k:Nat} (a:h < n) (hi:i < n) (b:k < n) (c:Q1C n h i < Q1C n h k):Q1C n h k=Q1C n h i+Q1C n i k:=by
 rw [Q14 a hi,Q14 a b] at c;rw [Q14 a hi,Q14 a b,Q14 hi b]
 (repeat' split at c) <;> (repeat' split) <;> omega
theorem QgK {n i:Nat} (hi:i < n):Q1C n i i=0:=by rw [Q14 hi hi,if_pos (Kaq _)];omega
theorem Qe6 {n i j:Nat} (hi:i < n) (hj:j < n) (hne:i≠j):1≤Q1C n i j:=by
 rw [Q14 hi hj];split <;> omega
abbrev at' (m:List Sl) (j:Nat):Sl:=m.getD j sl0
abbrev hm (m:List Sl) (j:Nat):Nat:=Q0S m.length (at' m j).a (at' m j).p
structure Gapless (m:List Sl) (i:Nat):Prop where
 slots:Q7A m m.length
 dist:∀x y,x < m.length→y < m.length→(at' m x).u=true→(at' m y).u=true→(at' m x).a=(at' m y).a→(at' m x).p=(at' m y).p→x=y
 gap:∀j x,j < m.length→x < m.length→(at' m j).u=true→Q1C m.length (hm m j) x < Q1C m.length (hm m j) j→(at' m x).u=true∨x=i
theorem Qao {a p:Int}:∀{L:List Met} {E:Int × Bool},Q7M a p L=some E→∃x,x∈L∧Q3N a p x=some E
 |[],E,h=> by simp [Q7M] at h
 |x::L,E,h=> by
  unfold Q7M at h;rw [List.findSome?_cons] at h
  cases hx:Q3N a p x with
  |none=> rw [hx] at h;obtain ⟨y,b,e⟩:=Qao (L:=L) (E:=E) h;exact ⟨y,List.mem_cons_of_mem _ b,e⟩
  |some E'=> rw [hx] at h;exact ⟨x,List.mem_cons_self,by rw [hx];exact h⟩
theorem Qap {a p:Int}:∀{L:List Met},(∀x,x∈L→Q3N a p x=none)→Q7M a p L=none
 |[],_=> rfl
 |x::L,h=> by
  unfold Q7M;rw [List.findSome?_cons,h x List.mem_cons_self];exact Qap (L:=L) (fun y b=> h y (List.mem_cons_of_mem _ b))
theorem Q9U {f:Nat→Met} {k:Nat} {x:Met}:x∈Q2N f k↔∃d,d < k∧f d=x:=by simp [Q2N]
theorem QbW {a p:Int} {x:Met} {E:Int × Bool} (h:Q3N a p x=some E):E.1=(x.1:Int):=by
 unfold Q3N at h
 split at h
 ·split at h
  ·cases h;rfl
  ·cases h
 ·cases h;rfl
theorem Q8q {a p:Int} {x:Met}:Q3N a p x=none↔x.2.u=true∧¬(x.2.a=a∧x.2.p=p):=by
 unfold Q3N
 by_cases h1:x.2.u=true
 ·rw [if_pos h1]
  by_cases h2:x.2.a=a∧x.2.p=p
  ·rw [if_pos h2];simp [h1,h2]
  ·rw [if_neg h2];simp [h1,h2]
 ·rw [if_neg h1];simp [h1]
theorem Q54 {l:List Sl} (n:0 < l.length) {a p:Int} {j:Nat} (A:j < l.length) {f:Bool} (h:Q0Z l a p=((j:Int),f)) (x:Nat) (q:x < l.length) (z:Q1C l.length (Q0S l.length a p) x < Q1C l.length (Q0S l.length a p) j):(at' l x).u=true∧¬((at' l x).a=a∧(at' l x).p=p):=by
 have c:=Q1q n a p;generalize hhe:Q0S l.length a p=h0 at *;have v:=QeB c q
 have i:Q3b l h0 (Q1C l.length h0 x)=(x,at' l x):=by unfold Q3b;rw [Q4U c q]
 cases hs:Q3N a p (x,at' l x) with
 |none=> exact Q8q.1 hs
 |some E0=>
  exfalso
  cases hsc:Q7M a p (Q2N (Q3b l h0) (Q1C l.length h0 x+1)) with
  |none=>
   rw [Q3G] at hsc
   have r:Q7M a p (Q2N (Q3b l h0) (Q1C l.length h0 x))=none:=by
    cases hq:Q7M a p (Q2N (Q3b l h0) (Q1C l.length h0 x)) with
    |none=> rfl
    |some E=> rw [QaN _ _ _ _ hq] at hsc;cases hsc
   rw [Q7Z _ _ _ _ r,i,hs] at hsc
   cases hsc
  |some E1=>
   have t:=Q7J (l:=l) n (a:=a) (p:=p) (k:=Q1C l.length h0 x+1) (E:=E1) (by omega) (by rw [hhe];exact hsc);obtain ⟨y,w,m⟩:=Qao hsc;obtain ⟨d,s,rfl⟩:=Q9U.1 w;have b:=QbW m;rw [←t,h] at b
   have g:j=(h0+d) % l.length:=by have:(j:Int)=((h0+d) % l.length:Nat):=b;omega
   have:=Q4H c (show d < l.length by omega);rw [←g] at this;omega
theorem Q9I {l:List Sl} (c:0 < l.length) {a p:Int} {j:Nat} (f:j < l.length) (q:(at' l j).u=true) (g:(at' l j).a=a) (n:(at' l j).p=p) (h:∀x,x < l.length→Q1C l.length (Q0S l.length a p) x < Q1C l.length (Q0S l.length a p) j→(at' l x).u=true∧¬((at' l x).a=a∧(at' l x).p=p)):Q0Z l a p=((j:Int),true):=by
 have b:=Q1q c a p;have m:=QeB b f;refine Q7J c (k:=Q1C l.length (Q0S l.length a p) j+1) (by omega) ?_;rw [Q3G,Q7Z]
 ·unfold Q3b Q3N
  rw [Q4U b f];simp only;rw [if_pos q,if_pos ⟨g,n⟩]
 ·refine Qap ?_
  intro y s;obtain ⟨d,i,rfl⟩:=Q9U.1 s;have r:=Nat.mod_lt (Q0S l.length a p+d) c;refine Q8q.2 (h _ r ?_);rw [Q4H b (by omega)];exact i
theorem QcS {l:List Sl} (h:Q0c l=true) (i:Nat):Gapless l i:=by
 obtain ⟨z,h2,q⟩:=Q07.1 h
 have k:∀j,j < l.length→(at' l j).u=true→Q0Z l (at' l j).a (at' l j).p=((j:Int),true):=fun j b d=> by
  have c:=((Bool.and_eq_true _ _).mp (q j b)).2;unfold Q9S at c;rw [d] at c
  simpa using c
 refine ⟨fun j b=> ((Bool.and_eq_true _ _).mp (q j b)).1, ?_, ?_⟩
 ·intro x y m w f g s v
  have n:=k x m f;have r:=k y w g;rw [s,v,r] at n;have:(y:Int)=x:=congrArg Prod.fst n;omega
 ·intro j x b m d t
  exact .inl (Q54 (by omega) b (k j b d) x m t).1
theorem Q9C {l:List Sl} (i:1≤l.length) (h2:l.length≤16) (hs:Q7A l l.length)
  (k:∀x y,x < l.length→y < l.length→(at' l x).u=true→(at' l y).u=true→(at' l x).a=(at' l y).a→(at' l x).p=(at' l y).p→x=y)
  (f:∀j x,j < l.length→x < l.length→(at' l j).u=true→Q1C l.length (hm l j) x < Q1C l.length (hm l j) j→(at' l x).u=true):Q0c l=true:=by
 refine Q07.2 ⟨i,h2,fun j b=> ?_⟩
 cases hu:(at' l j).u with
 |false=> exact Q4L hu (hs j b)
 |true=>
  refine Q4J (hs j b) (Q9I (by omega) b hu rfl rfl ?_);intro x d c;refine ⟨f j x b d hu c,fun ⟨g,h⟩=> ?_⟩;have:=k x j d b (f j x b d hu c) hu g h;subst this;omega
structure WInv (m:List Sl) (i c:Nat):Prop where
 gl:Gapless m i
 lt:c < m.length
 seen:∀j,j < m.length→(at' m j).u=true→Q1C m.length i j≤c→¬Q1C m.length (hm m j) i < Q1C m.length (hm m j) j
theorem Q1D {m:List Sl} {i:Nat} (s:Sl) (h:i < m.length):at' (m.set i s) i=s:=Q0Y m i s h
theorem Q0U {m:List Sl} {i j:Nat} (s:Sl) (h:i≠j):at' (m.set i s) j=at' m j:=Q1L m i j s h
theorem Qet {m:List Sl} {i j:Nat} (s:Sl) (h:i≠j):hm (m.set i s) j=hm m j:=by unfold hm;rw [Q0U s h,List.length_set]
theorem Qgo {m:List Sl} (hn:0 < m.length) (j:Nat):hm m j < m.length:=Q1q hn _ _
theorem WInv.start {l:List Sl} {i:Nat} (h:Q0c l=true) (hi:i < l.length):WInv (l.set i sl0) i 0:=by
 have p:=QcS h i;obtain ⟨w,_,_⟩:=Q07.1 h
 have a:∀j,(at' (l.set i sl0) j).u=true→i≠j:=fun j c e=> by rw [←e,Q1D _ hi] at c;cases c
 refine ⟨⟨?_, ?_, ?_⟩,(by rw [List.length_set];omega), ?_⟩
 ·intro j b
  rw [List.length_set] at b
  by_cases e:i=j
  ·subst e;rw [Q0Y _ _ _ hi];rfl
  ·rw [Q1L _ _ _ _ e];exact p.slots j b
 ·intro x y k s d f n q
  have t:=a x d;have v:=a y f;rw [List.length_set] at k s;rw [Q0U _ t] at d n q;rw [Q0U _ v] at f n q;exact p.dist x y k s d f n q
 ·intro j x b k c g
  have m:=a j c;rw [List.length_set] at b k g;rw [Qet _ m] at g;rw [Q0U _ m] at c
  by_cases e:i=x
  ·exact .inr e.symm
  ·left
   rw [Q0U _ e]
   rcases p.gap j x b k c g with r|r
   ·exact r
   ·exact absurd r.symm e
 ·intro j b c g
  have m:=a j c;rw [List.length_set] at b g;have:=Qe6 hi b m;omega
theorem WInv.stay {m:List Sl} {i c k:Nat} (h:WInv m i c) (hi:i < m.length) (l:k=(i+1+c) % m.length) (v:(at' m k).u=true) (a:(at' m i).u=false) (n:¬Q1C m.length i k≤Q1C m.length (hm m k) k):WInv m i (c+1):=by
 have r:0 < m.length:=by omega
 have f:k < m.length:=by rw [l];exact Nat.mod_lt _ r
 have g:i≠k:=fun e=> by rw [e,v] at a;cases a
 have d:c+1 < m.length:=by
  rcases Nat.lt_or_ge (c+1) m.length with b|b
  ·exact b
  ·exfalso
   have:=h.lt
   have e:i+1+c=i+m.length:=by omega
   rw [e,Nat.add_mod_right,Q2M hi] at l;exact g l.symm
 have s:Q1C m.length i k=c+1:=by rw [l,Nat.add_assoc,Nat.add_comm 1 c];exact Q4H hi d
 refine ⟨h.gl,d,fun j q p w=> ?_⟩
 rcases Nat.lt_or_ge c (Q1C m.length i j) with b|b
 ·have e:j=k:=QfK hi q f (by omega)
  subst e;intro t;exact n ((Qhn (Qgo r j) hi f g).1 t)
 ·exact h.seen j q p b
theorem WInv.move {m:List Sl} {i c k:Nat} (h:WInv m i c) (hi:i < m.length) (b:k < m.length) (B:(at' m k).u=true) (d:(at' m i).u=false) (H:Q1C m.length i k≤Q1C m.length (hm m k) k):WInv ((m.set i (at' m k)).set k sl0) k 0:=by
 have M:0 < m.length:=by omega
 have A:i≠k:=fun e=> by rw [e,B] at d;cases d
 have a:((m.set i (at' m k)).set k sl0).length=m.length:=by simp
 have N:=(Qhn (Qgo M k) hi b A).2 H
 have z:at' ((m.set i (at' m k)).set k sl0) i=at' m k:=by rw [Q0U _ (fun e=> A e.symm),Q1D _ hi]
 have J:at' ((m.set i (at' m k)).set k sl0) k=sl0:=Q1D _ (by simpa using b)
 have s:∀x,x≠i→x≠k→at' ((m.set i (at' m k)).set k sl0) x=at' m x:=fun x E h2=> by rw [Q0U _ (fun e=> h2 e.symm),Q0U _ (fun e=> E e.symm)]
 have F:hm ((m.set i (at' m k)).set k sl0) i=hm m k:=by unfold hm;rw [z,a]
 have G:∀x,x≠i→x≠k→hm ((m.set i (at' m k)).set k sl0) x=hm m x:=fun x E h2=> by unfold hm;rw [s x E h2,a]
 have q:∀x,(at' ((m.set i (at' m k)).set k sl0) x).u=true→x≠k:=fun x n e=> by rw [e,J] at n;cases n
 refine ⟨⟨?_, ?_, ?_⟩,by rw [a];exact M, ?_⟩
 ·intro j t
  rw [a] at t
  by_cases e1:j=k
  ·subst e1;show Q2h (at' _ j)=true;rw [J];rfl
  ·by_cases e2:j=i
   ·subst e2;show Q2h (at' _ j)=true;rw [z];exact h.gl.slots k b
   ·show Q2h (at' _ j)=true;rw [s j e2 e1];exact h.gl.slots j t
 ·intro x y v I g l p r
  have C:=q x g;have D:=q y l;rw [a] at v I
  by_cases e1:x=i
  ·by_cases e2:y=i
   ·rw [e1,e2]
   ·rw [e1,z] at p r
    rw [s y e2 D] at l p r;exact absurd (h.gl.dist k y b I B l p r).symm D
  ·by_cases e2:y=i
   ·rw [e2,z] at p r
    rw [s x e1 C] at g p r;exact absurd (h.gl.dist x k v b g B p r) C
   ·rw [s x e1 C] at g p r
    rw [s y e2 D] at l p r;exact h.gl.dist x y v I g l p r
 ·intro j x t v f w
  have L:=q j f;rw [a] at t v w
  by_cases e1:x=k
  ·exact .inr e1
  ·left
   by_cases e2:x=i
   ·rw [e2,z];exact B
   ·rw [s x e2 e1]
    by_cases e3:j=i
    ·rw [e3,F] at w
     rcases h.gl.gap k x b v B (by omega) with n|n
     ·exact n
     ·exact absurd n e2
    ·rw [G j e3 L] at w
     rw [s j e3 L] at f
     rcases h.gl.gap j x t v f w with n|n
     ·exact n
     ·exact absurd n e2
 ·intro j t f w
  rw [a] at t w;have:=Qe6 b t (fun e=> q j f e.symm);omega
theorem WInv.done {m:List Sl} {i c k:Nat} (h:WInv m i c) (l:m.length≤16) (hi:i < m.length) (y:k=(i+1+c) % m.length) (a:(at' m k).u=false):Q0c m=true:=by
 have t:0 < m.length:=by omega
 have b:k < m.length:=by rw [y];exact Nat.mod_lt _ t
 refine Q9C (by omega) l h.gl.slots h.gl.dist ?_;intro j x d G g n
 rcases h.gl.gap j x d G g n with v|v
 ·exact v
 ·exfalso
  subst v
  have hs:c < Q1C m.length x j:=Nat.lt_of_not_le fun s=> h.seen j d g s n
  have F:=QeB hi d
  have p:Q1C m.length x k=c+1:=by rw [y,Nat.add_assoc,Nat.add_comm 1 c];exact Q4H hi (by omega)
  have q:j≠k:=fun e=> by rw [e,a] at g;cases g
  have z:Q1C m.length x k < Q1C m.length x j:=by
   rcases Nat.lt_or_ge (c+1) (Q1C m.length x j) with f|f
   ·omega
   ·exact absurd (QfK hi d b (by omega)) q
  have H:=Qic (Qgo t j) hi d n
  have w:x≠k:=fun e=> by rw [e,QgK b] at p;omega
  have r:Q1C m.length (hm m j) k < Q1C m.length (hm m j) j:=by
   have:=Qgo t j;have A:=Q14 this b;have B:=Q14 this hi;have C:=Q14 this d;have D:=Q14 hi b;have E:=Q14 hi d
   (repeat' split at A) <;> (repeat' split at B) <;> (repeat' split at C) <;> (repeat' split at D) <;> (repeat' split at E) <;> omega
  rcases h.gl.gap j k d b g r with f|f
  ·rw [f] at a;cases a
  ·exact w f.symm
theorem Q6j {n:Nat} {R:List Sl}:∀(g:Nat) (m:List Sl) (i c k:Nat),k=(i+1+c) % n→DropInv n R g m i k→WInv m i c→Q0c R=true
 |g,m,i,c,k,hk,hD,hW=> by
  have b:=hD.len;have hi:=hD.hi;have q:=hD.hk;have j:=hD.free
  cases hu:(m.getD k sl0).u with
  |false=>
   rw [←hD.done hu];exact hW.done (by have:=hD.le;omega) (by omega) (by rw [b];exact hk) hu
  |true=>
   cases hm':Q4Z n m i k with
   |true=>
    obtain ⟨l,h⟩:=hD.move hu hm';obtain ⟨d,rfl⟩:∃d,g=d+1:=⟨g - 1,by omega⟩;have f:=Qaw.1 hm';exact Q6j d _ k 0 _ (by rw [Nat.add_zero]) h (hW.move (by omega) (by omega) hu j (by rw [b];unfold hm;rw [b];exact f))
   |false=>
    obtain ⟨l,h⟩:=hD.stay hu hm';obtain ⟨d,rfl⟩:∃d,g=d+1:=⟨g - 1,by omega⟩
    have f:¬Q1C n i k≤Q1C n (Q0S n (m.getD k sl0).a (m.getD k sl0).p) k:=fun r=> by rw [Qaw.2 r] at hm';cases hm'
    refine Q6j d m i (c+1) _ ?_ h (hW.stay (by omega) (by rw [b];exact hk) hu j (by rw [b];unfold hm;rw [b];exact f));rw [hk,Nat.mod_add_mod];congr 1
theorem Q8N {l:List Sl} {i:Nat} (h:Q0c l=true) (hi:i < l.length):Q0c (Q1M l i)=true:=by
 obtain ⟨a,h2,_⟩:=Q07.1 h;exact Q6j _ _ i 0 _ (by rw [Nat.add_zero]) (DropInv.start h2 hi (Q2l h)) (WInv.start h hi)
theorem QfD {m:List Sl} {i:Nat} (h:Q0c m=true) (hi:i < m.length) (c:(at' m i).u=true):Q0Z m (at' m i).a (at' m i).p=((i:Int),true):=by
 have b:=((Bool.and_eq_true _ _).mp ((Q07.1 h).2.2 i hi)).2;unfold Q9S at b;rw [show (m.getD i sl0).u=true from c] at b
 simpa using b
theorem Q5s {l:List Sl} (h:Q0c l=true) {a p:Int} {j:Nat}:Q0Z l a p=((j:Int),true)↔j < l.length∧(at' l j).u=true∧(at' l j).a=a∧(at' l j).p=p:=by
 have m:=(Q07.1 h).1
 constructor
 ·intro e
  rcases Q1f l (by omega) a p with b|⟨k,g,⟨b,_⟩|⟨b,c,d,i⟩⟩
  ·rw [b] at e;cases e
  ·rw [b] at e;injection e with _ e;cases e
  ·rw [b] at e
   injection e with e _
   have:k=j:=by omega
   subst this;exact ⟨g,c,d,i⟩
 ·rintro ⟨f,c,rfl,rfl⟩
  exact QfD h f c
theorem Qhr {l:List Sl} {a p v t:Int} {k:Nat} {f:Bool} (h:Q0c l=true) (z:Q0h a p=true) (hv:0≤v∧v≤100000) (w:0≤t∧t≤200000) (s:k < l.length) (r:Q0Z l a p=((k:Int),f)):Q0c (l.set k ⟨true,a,p,v,t⟩)=true:=by
 obtain ⟨A,h2,y⟩:=Q07.1 h;have b:(l.set k ⟨true,a,p,v,t⟩).length=l.length:=List.length_set;have hs:=Q1D (m:=l) ⟨true,a,p,v,t⟩ s;refine Q07.2 ⟨by omega,by omega,fun i hi=> ?_⟩;rw [b] at hi
 by_cases hik:k=i
 ·subst hik
  refine Q4J ?_ ?_
  ·rw [show (l.set k ⟨true,a,p,v,t⟩).getD k sl0=⟨true,a,p,v,t⟩ from hs]
   exact (Q3Q rfl).2 ⟨z,hv.1,hv.2,w.1,w.2⟩
  ·rw [show (l.set k ⟨true,a,p,v,t⟩).getD k sl0=⟨true,a,p,v,t⟩ from hs]
   refine Q9I (by omega) (by omega) (by rw [hs]) (by rw [hs]) (by rw [hs]) (fun x g c=> ?_);rw [b] at g c
   have n:k≠x:=fun e=> by rw [e] at c;exact absurd c (Nat.lt_irrefl _)
   rw [Q0U _ n];exact Q54 (by omega) s r x g c
 ·have d:=Q0U (m:=l) ⟨true,a,p,v,t⟩ hik
  have q:=(Bool.and_eq_true _ _).mp (y i hi)
  cases hu:(at' l i).u with
  |false=> exact Q4L (by rw [show (l.set k ⟨true,a,p,v,t⟩).getD i sl0=at' l i from d];exact hu) (by rw [show (l.set k ⟨true,a,p,v,t⟩).getD i sl0=at' l i from d];exact q.1)
  |true=>
   have j:=QfD h hi hu;refine Q4J ?_ ?_
   ·rw [show (l.set k ⟨true,a,p,v,t⟩).getD i sl0=at' l i from d];exact q.1
   ·rw [show (l.set k ⟨true,a,p,v,t⟩).getD i sl0=at' l i from d]
    refine Q9I (by omega) (by omega) (by rw [d];exact hu) (by rw [d]) (by rw [d]) (fun x g c=> ?_);rw [b] at g c
    by_cases hkx:k=x
    ·subst hkx
     rw [hs];refine ⟨rfl,fun e=> hik ?_⟩;rw [←e.1,←e.2,r] at j;injection j with j _;omega
    ·rw [Q0U _ hkx]
     exact Q54 (by omega) hi j x g c
theorem Q7p {l:List Sl} {a p v t:Int} (h:Q0c l=true) (b:Q0h a p=true) (hv:0≤v∧v≤100000) (d:0≤t∧t≤200000):Q0c (Q4d l a p v t)=true:=by
 have f:=(Q07.1 h).1
 rcases Q1f l (by omega) a p with e|⟨k,c,⟨e,_⟩|⟨e,_⟩⟩
 ·unfold Q4d;rw [e,if_neg (by decide)];exact h
 ·unfold Q4d;rw [e,if_pos (by simp)];simpa using Qhr h b hv d c e
 ·unfold Q4d;rw [e,if_pos (by simp)];simpa using Qhr h b hv d c e
def Qhh (m:List Sl) (s:Sl):Prop:=∃j,j < m.length∧at' m j=s
theorem Qgp {m:List Sl} {i k:Nat} {s:Sl} (hi:i < m.length) (g:k < m.length) (f:i≠k) (a:(at' m i).u=false) (hs:s.u=true):Qhh ((m.set i (at' m k)).set k sl0) s↔Qhh m s:=by
 have d:((m.set i (at' m k)).set k sl0).length=m.length:=by rw [List.length_set,List.length_set]
 have c:k < (m.set i (at' m k)).length:=by rw [List.length_set];exact g
 constructor
 ·rintro ⟨j,b,e⟩
  rw [d] at b
  by_cases hjk:k=j
  ·subst hjk
   rw [Q1D _ c] at e;rw [←e] at hs;cases hs
  ·rw [Q0U _ hjk] at e
   by_cases hji:i=j
   ·subst hji
    rw [Q1D _ hi] at e;exact ⟨k,g,e⟩
   ·rw [Q0U _ hji] at e
    exact ⟨j,b,e⟩
 ·rintro ⟨j,b,e⟩
  by_cases hji:i=j
  ·subst hji
   rw [e,hs] at a;cases a
  ·by_cases hjk:k=j
   ·subst hjk
    exact ⟨i,by rw [d];exact hi,by rw [Q0U _ (fun h=> f h.symm),Q1D _ hi];exact e⟩
   ·exact ⟨j,by rw [d];exact b,by rw [Q0U _ hjk,Q0U _ hji];exact e⟩
theorem Q9K {n:Nat} {R:List Sl} {s:Sl} (hs:s.u=true):∀(g:Nat) (m:List Sl) (i k:Nat),DropInv n R g m i k→(Qhh R s↔Qhh m s)
 |g,m,i,k,hD=> by
  have d:=hD.len;have hi:=hD.hi;have j:=hD.hk
  cases hu:(m.getD k sl0).u with
  |false=> rw [←hD.done hu]
  |true=>
   cases hm':Q4Z n m i k with
   |true=>
    obtain ⟨f,b⟩:=hD.move hu hm';obtain ⟨a,rfl⟩:∃a,g=a+1:=⟨g - 1,by omega⟩
    have c:i≠k:=fun e=> by have h:=hD.free;rw [e,hu] at h;cases h
    exact (Q9K hs a _ _ _ b).trans (Qgp (by omega) (by omega) c hD.free hs)
   |false=>
    obtain ⟨f,b⟩:=hD.stay hu hm';obtain ⟨a,rfl⟩:∃a,g=a+1:=⟨g - 1,by omega⟩;exact Q9K hs a _ _ _ b
theorem Q8F {l:List Sl} {i:Nat} (h:Q0c l=true) (hi:i < l.length) {s:Sl} (hs:s.u=true):Qhh (Q1M l i) s↔∃j,j < l.length∧j≠i∧at' l j=s:=by
 rw [Q9K hs _ _ _ _ (DropInv.start (Q07.1 h).2.1 hi (Q2l h))]
 constructor
 ·rintro ⟨j,a,e⟩
  rw [List.length_set] at a
  by_cases hji:i=j
  ·subst hji
   rw [Q1D _ hi] at e;rw [←e] at hs;cases hs
  ·rw [Q0U _ hji] at e
   exact ⟨j,a,fun h=> hji h.symm,e⟩
 ·rintro ⟨j,a,b,e⟩
  exact ⟨j,by rw [List.length_set];exact a,by rw [Q0U _ (fun h=> b h.symm)];exact e⟩
theorem Q64 {l:List Sl} (h:Q0c l=true) {a p:Int} {s:Sl}:((Q0Z l a p).2=true∧Q6a l a p=s)↔(Qhh l s∧s.u=true∧s.a=a∧s.p=p):=by
 have n:=(Q07.1 h).1
 constructor
 ·rintro ⟨b,h2⟩
  rcases Q1f l (by omega) a p with e|⟨k,m,⟨e,_⟩|⟨e,f,c,d⟩⟩
  ·rw [e] at b;cases b
  ·rw [e] at b;cases b
  ·unfold Q6a at h2
   rw [e,if_pos rfl] at h2
   have g:at' l k=s:=by simpa [at'] using h2
   subst g;exact ⟨⟨k,m,rfl⟩,f,c,d⟩
 ·rintro ⟨⟨j,i,rfl⟩,f,c,d⟩
  have e:=(Q5s h).2 ⟨i,f,c,d⟩;refine ⟨by rw [e], ?_⟩;unfold Q6a;rw [e,if_pos rfl];simp [at']
theorem Qg0 {l:List Sl} {a p b c:Int} {i:Nat} (h:Q0c l=true) (e:Q0Z l a p=((i:Int),true)) (n:¬(b=a∧c=p)) (s:Sl):((Q0Z (Q1M l i) b c).2=true∧Q6a (Q1M l i) b c=s)↔((Q0Z l b c).2=true∧Q6a l b c=s):=by
 obtain ⟨hi,u,q,r⟩:=(Q5s h).1 e;rw [Q64 (Q8N h hi),Q64 h]
 constructor
 ·rintro ⟨t,h2,f,g⟩
  obtain ⟨j,k,_,d⟩:=(Q8F h hi h2).1 t;exact ⟨⟨j,k,d⟩,h2,f,g⟩
 ·rintro ⟨⟨j,k,d⟩,h2,f,g⟩
  refine ⟨(Q8F h hi h2).2 ⟨j,k,fun m=> ?_,d⟩,h2,f,g⟩;subst m;rw [d] at q r;exact n ⟨f.symm.trans q,g.symm.trans r⟩
end Go.Proofs.YtpneolgdghbinaaGreat
