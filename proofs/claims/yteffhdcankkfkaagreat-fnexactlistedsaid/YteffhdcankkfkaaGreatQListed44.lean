/- Several texts in one: SPe, SPf, SPok, SPdo, SCan, CandMath, SCan2, NoteMath. -/
import Derived.Laws.StructEq
import Derived.Test.YteffhdcankkfkaaGreatQListed34
namespace Go.Proofs.YteffhdcankkfkaaGreat
open Go.ChangeShapes Go.WideShapes Go.ChangeAt Go.RowKit Go.Joins
set_option linter.unusedVariables false
set_option linter.unusedSimpArgs false
set_option maxRecDepth 100000
set_option maxHeartbeats 40000000
def Qae (f g:Pt):Bool:=(List.range 8).all (fun i=>f i==g i)
theorem Qjh:Tryz.prog.underlying 262=some (.array 2 3):=by kernel_rfl
theorem Qhb:Tryz.prog.cellsOf 3=1:=by kernel_rfl
theorem QhY:(Tryz.prog.info? 264).isSome=true:=by kernel_rfl
theorem Qhf:Tryz.prog.cellsOf 264=3:=by kernel_rfl
theorem Qcu (w:World) (a b:Int):(part 3 #[.int .i64 a,.int .i64 b] 0).run Tryz.prog w=.ok (.int .i64 a) w:=run_part_plain w (by kernel_rfl) rfl
theorem Qc6 (w:World) (a b:Int):(part 3 #[.int .i64 a,.int .i64 b] 1).run Tryz.prog w=.ok (.int .i64 b) w:=run_part_plain w (by kernel_rfl) rfl
theorem QfM (w:World) (s:Bool) (a b:Int):(part 4 #[.bool s,.int .i64 a,.int .i64 b] 0).run Tryz.prog w=.ok (.bool s) w:=run_part_plain w (by kernel_rfl) rfl
theorem QgZ (d:Nat) (a b a' b':Int) (w:World):(Op.equalIn (d+1+1) 262 (.agg #[.int .i64 a,.int .i64 b]) (.agg #[.int .i64 a',.int .i64 b'])).run Tryz.prog w=.ok (a==a' && b==b') w:=by
 obtain⟨i,hi⟩:∃i,Tryz.prog.info? 3=some i:=by
  cases h:Tryz.prog.info? 3 with
  |none=>have:=Qbv;rw[h]at this;cases this
  |some i=>exact⟨i,rfl⟩
 have c:=Tryz.underlying3;rw[run_equalIn_array w (d+1) _ _ Qjh hi,Qhb,show List.range 2=[0,1]from rfl];simp only[Op.eqItems,Nat.zero_mul,Nat.one_mul,Nat.mul_one,Sem.run_bind,Qcu,Qc6,Result.andThen_ok,run_equalIn_int w d 3 .i64 .i64 _ _ c]
 by_cases h1:a=a' <;> by_cases h2:b=b' <;> simp[h1,h2,Qcu,Qc6,Sem.run_bind,run_equalIn_int w d 3 .i64 .i64 _ _ c]
theorem Qey (w:World) (s:Bool) (a b:Int):(part 262 #[.bool s,.int .i64 a,.int .i64 b] 1).run Tryz.prog w=.ok (.agg #[.int .i64 a,.int .i64 b]) w:=by
 have d:(isAgg 262).run Tryz.prog w=.ok true w:=by simp[go_sem]
 have h2:(sizeOf 262).run Tryz.prog w=.ok 2 w:=by
  have c:(Tryz.prog.info? 262).map (·.size)=some 2:=by kernel_rfl
  cases hq:Tryz.prog.info? 262 with
  |none=>simp[hq]at c
  |some i=>simp[hq]at c;simp[sizeOf,typeInfo,hq,c]
 simp[part,Sem.run_bind,d,h2]
theorem QiH (d:Nat) (p q:Ip) (w:World):(Op.equalIn (d+1+1+1) 264 (ipv p) (ipv q)).run Tryz.prog w=.ok (p==q) w:=by
 obtain⟨s,a,b⟩:=p;obtain⟨s',a',b'⟩:=q
 have hS:Tryz.prog.underlying 264=some (.struct (Tryz.prog.fieldsOf 264)):=by kernel_rfl
 have hF:(Tryz.prog.fieldsOf 264).toList.map (fun f=>(f.name,f.type,f.offset))=[("some",4,0),("ids",262,1)]:=by kernel_rfl
 rw[run_equalIn_struct w (d+1+1) 264 _ _ hS (by kernel_rfl)];generalize (Tryz.prog.fieldsOf 264).toList=fs at hF ⊢
 match fs,hF with
 |[],hF=>simp at hF
 |[_],hF=>simp at hF
 |_::_::_::_,hF=>simp at hF
 |[f1,f2],hF=>
  simp only[List.map_cons,List.map_nil,List.cons.injEq,Prod.mk.injEq,and_true]at hF;obtain⟨⟨n1,t1,o1⟩,n2,t2,o2⟩:=hF;have hb:=Tryz.underlying4
  have hn1:¬(f1.name= "_"):=by rw[n1];decide
  have hn2:¬(f2.name= "_"):=by rw[n2];decide
  have e:((s,a,b)==(s',a',b'))=(s==s' && (a==a' && b==b')):=rfl;rw[e];simp only[Op.eqFields,ne_eq,hn1,hn2,not_false_eq_true,if_true,t1,t2,o1,o2,Sem.run_bind,QfM,Qey,QgZ,Result.andThen_ok,run_equalIn_bool' w (d+1) 4 _ _ hb]
  by_cases h1:s=s'
  ·subst h1
   simp only[beq_self_eq_true,Bool.not_true,Bool.false_eq_true,if_false,Sem.run_bind,Qey,QgZ,Result.andThen_ok,Bool.true_and]
   cases hc:(a==a' && b==b') <;> simp
  ·have h1':(s==s')=false:=beq_eq_false_iff_ne.2 h1
   rw[h1'];simp
theorem Qh1 (w:World) (f:Pt) (i:Nat) (h:i < 8):(part 264 (ptA f) (i * 3)).run Tryz.prog w=.ok (ipv (f i)) w:=by
 simp[part,Sem.run_bind,Qhg,Qer,Qcy f i h]
theorem Qcw (d:Nat) (f g:Pt) (w:World):∀a:List Nat,(∀i∈a,i < 8)->(Op.eqItems (d+1+1+1) 264 3 (ptA f) (ptA g) a).run Tryz.prog w=.ok (a.all (fun i=>f i==g i)) w
 |[],_=>by simp[Op.eqItems]
 |i::a,h=>by
  have hi:=h i (by simp);simp only[Op.eqItems,Sem.run_bind,Qh1 w f i hi,Qh1 w g i hi,QiH,Result.andThen_ok]
  cases hc:(f i==g i)with
  |false=>simp[hc]
  |true=>simp only[Bool.not_true,Bool.false_eq_true,if_false];rw[Qcw d f g w a (fun j b=>h j (by simp[b]))];simp[hc]
theorem QiP (f g:Pt) (w:World):(Op.equalIn 10000 266 (ptv f) (ptv g)).run Tryz.prog w=.ok (Qae f g) w:=by
 have hi:=QhY
 cases hq:Tryz.prog.info? 264 with
 |none=>rw[hq]at hi;cases hi
 |some i=>
  rw[show(10000:Nat)=9996+1+1+1+1 from rfl,run_equalIn_array w (9996+1+1+1) _ _ ptU hq,Qhf];exact Qcw 9996 f g w _ (fun i hi=>by simpa using hi)
def Q2U (m:Pm):Bool:=Q1S m.key && Q0d m.l && decide (1<=m.ring.length) && decide (m.ring.length<=3) && (List.range m.ring.length).all (fun i=>Q1e (m.ring.getD i [])) && Qae (Q3k (m.ring.getD 0 [])) (Q2E m.key m.l)
theorem QfN {m:Pm} (h:Q1S m.key=false\/Q0d m.l=false\/m.ring.length < 1\/3 < m.ring.length\/(∃i,i < m.ring.length/\Q1e (m.ring.getD i [])=false)\/Qae (Q3k (m.ring.getD 0 [])) (Q2E m.key m.l)=false):Q2U m=false:=by
 rw[Bool.eq_false_iff];intro a;unfold Q2U at a;simp only[Bool.and_eq_true,decide_eq_true_eq,List.all_eq_true,List.mem_range]at a;obtain⟨⟨⟨⟨⟨b,h2⟩,f⟩,g⟩,c⟩,d⟩:=a
 rcases h with h|h|h|h|⟨i,hi,h⟩|h
 ·rw[b]at h;cases h
 ·rw[h2]at h;cases h
 ·omega
 ·omega
 ·rw[c i hi]at h;cases h
 ·rw[d]at h;cases h
theorem Q9E {m:Pm} (a:Q1S m.key=true) (h2:Q0d m.l=true) (b:1<=m.ring.length) (c:m.ring.length<=3) (d:∀i,i < m.ring.length->Q1e (m.ring.getD i [])=true) (f:Qae (Q3k (m.ring.getD 0 [])) (Q2E m.key m.l)=true):Q2U m=true:=by
 unfold Q2U;simp only[Bool.and_eq_true,decide_eq_true_eq,List.all_eq_true,List.mem_range];exact⟨⟨⟨⟨⟨a,h2⟩,b⟩,c⟩,d⟩,f⟩
def Qiu (m:Pm) (o:Option Addr) (cap:Nat) (w:World) (e:Ending) (w':World):Prop:=∃vP,e=.returned (.tuple #[vP,.bool (Q2U m)])/\(Q2U m=true->∃o2 c2,vP=Q5x m.key (.slice o m.l.length cap) (.slice o2 m.ring.length c2)/\ownL Q1O 266 w' w.heap.size (.slice o2 m.ring.length c2) (m.ring.map Q3k))/\(Q2U m=false->vP=Q5x 0 (.slice none 0 0) (.slice none 0 0))/\Below w.heap.size w w'
theorem Q5o {m:Pm} {o:Option Addr} {cap:Nat} {w a:World} (h:Q2U m=false) (c:Below w.heap.size w a):Qiu m o cap w (.returned (.tuple #[Q5x 0 (.slice none 0 0) (.slice none 0 0),.bool false])) a:=
 ⟨_,by rw[h],fun b=>absurd (h.symm.trans b) (by simp),fun _=>rfl,c⟩
theorem Qhj (w:World) (f:Pt):RdL Q1O (w.alloc (.cells (ptA f) 266)).heap.size (w.alloc (.cells (ptA f) 266)) (some ⟨w.heap.size,0,none⟩) [f]:=ownL.rd (L:=Q1O) (Q4N w f)
theorem Qg8 (R:List (List (List Int))) (i:Nat) (h:i < R.length):(R.map Q3k).take (i+1)=(R.map Q3k).take i++[Q3k (R.getD i [])]:=by
 have a:i < (R.map Q3k).length:=by rw[List.length_map];exact h
 rw[List.take_succ_eq_append_getElem a];simp[h]
theorem Qep {w:World} {base:Nat} {v:Value} {a:List Pt} (h:ownL Q1O 266 w base v a) (f:0 < a.length):∃g c,v=.slice (some ⟨g,0,none⟩) a.length c:=by
 rcases h.2 with⟨_,d⟩|⟨g,cap,b,e,_⟩
 ·omega
 ·exact⟨g,cap,e⟩
theorem Qe5 {w:World} {base g n c:Nat} {a:List (List (List Int))} (h:ownL Q1O 266 w base (.slice (some ⟨g,0,none⟩) n c) (a.map Q3k)) (d:0 < a.length):w.rangeAt g 0 (ptL (Q3k (a.getD 0 []))):=by
 rcases ownL.rds (L:=Q1O) h with i|⟨b,j,e,_,r⟩
 ·have:(a.map Q3k).length=0:=by rw[i];rfl
  rw[List.length_map]at this;omega
 ·injection e with e
  injection e with e1 e2 e3;subst e1 e2;have h2:=RdL.range r 0 (by rw[List.length_map];exact d)
  have f:(a.map Q3k).getD 0 ptZ=Q3k (a.getD 0 []):=by simp[d]
  rw[f]at h2
  simpa using h2
theorem Qiw {W:World} {B:Nat} {x y z:Value} {T:TypeId} (h:W.heap[B]? =some (.cells #[x,y,z] T (0,0))):W.cell? ⟨B,0,none⟩=some x/\W.cell? ⟨B,1,none⟩=some y/\W.cell? ⟨B,2,none⟩=some z/\W.frozen? ⟨B,0,none⟩=false/\W.frozen? ⟨B,1,none⟩=false/\W.frozen? ⟨B,2,none⟩=false:=
 ⟨Q02 h 0 _ rfl,Q02 h 1 _ rfl,Q02 h 2 _ rfl,Q04 h 0,Q04 h 1,Q04 h 2⟩
theorem Qho:Tryz.prog.eqGuardType Tryz.prog.depth 266=false:=by kernel_rfl
theorem Qb7 (key:Int) (o:Option Addr) (cap:Nat) (l:List Bk) (oR:Option Addr) (cR:Nat) (c:List (List (List Int))) (n:Nat) (ar:n=c.length) (w:World) (hR:RdK w.heap.size w o l) (hG:RiR 0 w.heap.size w (.slice oR n cR) c) (hf:Q3a ⟨key,l,c⟩):
  Calls Tryz.prog 214 #[plv key (.slice o l.length cap) (.slice oR n cR)] w fun e w'=>Qiu ⟨key,l,c⟩ o cap w e w':=by
 have q:=Q00 ar;obtain⟨an,aH,aI,ao,ap⟩:=hf;dsimp only at an aH aI ao ap;rw[<-ar]at aH;have HX:=Q00 ao;have HY:=Q00 ap;clear ar ao ap aI;obtain⟨W0,D⟩:∃W,((w.alloc (.cells #[.int .i64 key,.slice o l.length cap,.slice oR n cR] 29)).alloc (.cells #[.int .i64 0,.slice none 0 0,.slice none 0 0] 218))=W:=⟨_,rfl⟩;have U:=alb0v0v2 D;have I:=Q00 U;clear U;have zz:=alz0v0v2 D;obtain⟨z0,z1,z2⟩:=alc3v0v2 D;have p:=alz0v1v2 D;obtain⟨r0,r1,r2⟩:=alc3v1v2 D;obtain⟨N,O,P⟩:=alf3v1v2 D
 have aY:=Q00 (show W0.heap[w.heap.size+1]? =some (.cells #[.int .i64 0,.slice none 0 0,.slice none 0 0] 218 (0,0))by rw[<-D];exact Q2w w _ _ _);have bc:=p;have bg:=zz;have y:=Q00 (fun W=>Q0N key W);have x:=Q00 (Q2o o cap l W0 ((hR.kept I.out (Kaq _)).le I.out.size) an);have a0:=Q00 hR;have HG:=Q00 hG;clear hR hG;have G:=Q00 (fun h=>QfN (m:=⟨key,l,c⟩) h);have bn:=I.out.size
 cases hk:Q1S key with
 |false=>
  rw[hk]at y;go_enter Tryz.func214,Tryz.ntmps214;go_wp2_with (first|(go_at_call 133;refine(y.out _).mono ?_;rintro e w1 ⟨rfl,rfl⟩)|(go_at_call 239;refine x.out.mono ?_;rintro e w2 ⟨rfl,a⟩;have a:=Q00 a));refine bodyPost_ret (v:=.tuple #[Q5x 0 (.slice none 0 0) (.slice none 0 0),.bool false]) (by simp[results,Tryz.results214,go_sem,r0,r1,r2]) rfl (Q5o (G.out (.inl hk)) (Q0D I.out (Nat.le_succ _) _ _ _))
 |true=>
  rw[hk]at y;have HK:=Q00 hk;clear hk
  cases hbo:Q0d l with
  |false=>
   rw[hbo]at x;go_enter Tryz.func214,Tryz.ntmps214;go_wp2_with (first|(go_at_call 133;refine(y.out _).mono ?_;rintro e w1 ⟨rfl,rfl⟩)|(go_at_call 239;refine x.out.mono ?_;rintro e w2 ⟨rfl,a⟩;have s0:=bC a r0 p;have s1:=bC a r1 p;have s2:=bC a r2 p;have t0:=bF a N p;have t1:=bF a O p;have t2:=bF a P p;have a:=Q00 a))
   refine bodyPost_ret (v:=.tuple #[Q5x 0 (.slice none 0 0) (.slice none 0 0),.bool false]) (by simp[results,Tryz.results214,go_sem,s0,s1,s2]) rfl (Q5o (G.out (.inr (.inl hbo))) (Q0D (I.out.trans (a.out.mono I.out.size)) (Nat.le_succ _) _ _ _))
  |true=>
   rw[hbo]at x;have aw:=Q00 hbo;clear hbo
   by_cases h1:(n:Int) < 1
   ·go_enter Tryz.func214,Tryz.ntmps214
    go_wp2_with (first|(go_at_call 133;refine(y.out _).mono ?_;rintro e w1 ⟨rfl,rfl⟩)|(go_at_call 239;refine x.out.mono ?_;rintro e w2 ⟨rfl,a⟩;have s0:=bC a r0 p;have s1:=bC a r1 p;have s2:=bC a r2 p;have t0:=bF a N p;have t1:=bF a O p;have t2:=bF a P p;have y0:=bC a z0 zz;have y1:=bC a z1 zz;have y2:=bC a z2 zz;have a:=Q00 a))
    refine bodyPost_ret (v:=.tuple #[Q5x 0 (.slice none 0 0) (.slice none 0 0),.bool false]) (by simp[results,Tryz.results214,go_sem,s0,s1,s2]) rfl (Q5o (G.out (.inr (.inr (.inl (show c.length < 1 by have:=q.out;omega))))) (Q0D (I.out.trans (a.out.mono I.out.size)) (Nat.le_succ _) _ _ _))
   by_cases h3:(3:Int) < (n:Int)
   ·go_enter Tryz.func214,Tryz.ntmps214
    go_wp2_with (first|(go_at_call 133;refine(y.out _).mono ?_;rintro e w1 ⟨rfl,rfl⟩)|(go_at_call 239;refine x.out.mono ?_;rintro e w2 ⟨rfl,a⟩;have s0:=bC a r0 p;have s1:=bC a r1 p;have s2:=bC a r2 p;have t0:=bF a N p;have t1:=bF a O p;have t2:=bF a P p;have y0:=bC a z0 zz;have y1:=bC a z1 zz;have y2:=bC a z2 zz;have a:=Q00 a))
    refine bodyPost_ret (v:=.tuple #[Q5x 0 (.slice none 0 0) (.slice none 0 0),.bool false]) (by simp[results,Tryz.results214,go_sem,s0,s1,s2]) rfl (Q5o (G.out (.inr (.inr (.inr (.inl (show 3 < c.length by have:=q.out;omega)))))) (Q0D (I.out.trans (a.out.mono I.out.size)) (Nat.le_succ _) _ _ _))
   have a6:1<=n:=by omega
   have a7:n<=3:=by omega
   go_enter Tryz.func214,Tryz.ntmps214;go_wp2_with (first|(go_at_call 133;refine(y.out _).mono ?_;rintro e w1 ⟨rfl,rfl⟩)|(go_at_call 239;refine x.out.mono ?_;rintro e w2 ⟨rfl,a⟩;have s0:=bC a r0 p;have s1:=bC a r1 p;have s2:=bC a r2 p;have t0:=bF a N p;have t1:=bF a O p;have t2:=bF a P p;have y0:=bC a z0 zz;have y1:=bC a z1 zz;have y2:=bC a z2 zz;have a:=Q00 a));have bk:=a.out.size;have aV:=Q00 (I.out.trans (a.out.mono I.out.size));have aZ:=Q00 ((a.out.block _ bc).trans aY.out);clear z0 z1 z2 r0 r1 r2 N O P s0 s1 s2 t0 t1 t2 y x
   go_loopw [4,35] (fun rv iv wr=> ∃(i:Nat),i<=n/\iv=.int .i64 (i:Int)/\Hid (ownL Q1O 266 wr w2.heap.size rv ((c.map Q3k).take i))/\Hid (∀j,j < i->Q1e (c.getD j [])=true)/\Hid (Below w2.heap.size w2 wr))
    (fun _ iv _=>n - (intOf iv).toNat)
   case atStart=>exact⟨0,Kcq _,rfl,by rw[List.take_zero];exact KLq _ _ _ _,fun j hj=>absurd hj (KMq _),KBq⟩
   case round=>
    rename_i rv _
    obtain⟨i,bj,rfl,C,aB,B⟩:=hrel;have bb:=B.out.size;have aQ:=bC B.out y0 (by omega);have aR:=bC B.out y1 (by omega);have bd:=bC B.out y2 (by omega);have d:=Q00 (aV.out.trans (B.out.mono (show w.heap.size<=w2.heap.size by omega)));have H:=(B.out.block _ (show w.heap.size+1 < w2.heap.size by omega)).trans aZ.out
    by_cases hlt:i < n
    ·skip
     have bf:(i:Int) < (n:Int):=by omega
     have X:i < c.length:=by rw[<-q.out];exact hlt
     obtain⟨b,bo,o',c',rfl,a8,ac,ae⟩:=HG.out.at (Kaq _) i X;have aF:=bC d.out ac a8;have aM:=(ae.kept d.out (Kaq _)).le d.out.size;have aj:=Q00 (Qg8 c i X);have aO:=HX.out i X;have aP:=HY.out i X;have az:=Q00 (fun h=>G.out (.inr (.inr (.inr (.inr (.inl ⟨i,X,h⟩))))));have t:=Q00 (Q2N o' c' (c.getD i []) wr aM aO aP);clear ac ae aM aO aP;obtain⟨ll,aq⟩:∃ll,c.getD i []=ll:=⟨_,rfl⟩;rw[aq]at aF aj az t;have aW:=Q00 aq;clear aq;obtain⟨m,hm⟩:∃m,ll.length=m:=⟨_,rfl⟩;rw[hm]at aF t;clear hm
     cases hok:Q1e ll with
     |false=>
      rw[hok]at t;simp only[Bool.false_eq_true,if_false]at t;have g0:=Q04 H 0;have g1:=Q04 H 1;have g2:=Q04 H 2;go_wp2_with fail;refine t.out.mono ?_;rintro e A ⟨rfl,z⟩;have aN:=z.size;have ad:=(z.block _ (show w.heap.size+1 < wr.heap.size by omega)).trans H;obtain⟨J,E⟩:∃W,A.alloc (.cells (ptA ptZ) 266)=W:=⟨_,rfl⟩
      have s:J.heap[w.heap.size+1]? =some (.cells #[.int .i64 0,.slice none 0 0,.slice none 0 0] 218 (0,0)):=by rw[<-E];exact(Below.heap_alloc _ _ _ (by omega)).trans ad
      have aS:Hid (Below w.heap.size w J):=by rw[<-E];exact(d.out.trans (z.mono d.out.size)).alloc (by have:=d.out.size;omega) _
      have q0:J.cell? ⟨w.heap.size+1,0,none⟩=some (.int .i64 0):=Q02 s 0 _ rfl;have a3:=Q04 s 0;have q1:J.cell? ⟨w.heap.size+1,1,none⟩=some (.slice none 0 0):=Q02 s 1 _ rfl;have a4:=Q04 s 1;have q2:J.cell? ⟨w.heap.size+1,2,none⟩=some (.slice none 0 0):=Q02 s 2 _ rfl;have a5:=Q04 s 2;clear z ad s;go_wp2_with (first|(refine Q0B rfl (.tmp 7) (.tmp 42) rfl A.heap.size ptZ ptZ rfl rfl (World.alloc_heap_new A _) ?_;rw[World.setRow_alloc_new,E]))
      refine bodyPost_ret (v:=.tuple #[Q5x 0 (.slice none 0 0) (.slice none 0 0),.bool false]) (by simp[results,Tryz.results214,go_sem,q0,q1,q2]) rfl (Q5o (az.out hok) (Q0D aS.out (Nat.le_succ _) _ _ _))
     |true=>
      have aC:=Q00 hok;rw[hok]at t;simp only[if_true]at t;clear hok;obtain⟨f,hf⟩:∃f,Q3k ll=f:=⟨_,rfl⟩;rw[hf]at t aj;clear hf;go_wp2_with fail;refine t.out.mono ?_;rintro e A ⟨rfl,z⟩;have aN:=z.size;obtain⟨J,E⟩:∃W,A.alloc (.cells (ptA f) 266)=W:=⟨_,rfl⟩
      have F:Below wr.heap.size wr J:=by rw[<-E];exact z.alloc aN _
      have a2:Hid (J.heap[A.heap.size]? =some (.cells (ptA f) 266 (0,0))):=by rw[<-E];exact World.alloc_heap_new A _
      have aD:=Q00 (Q0a C.out F);have aT:=Q00 (B.out.trans (F.mono bb));have bl:=F.size;obtain⟨oq,cq,eq,_⟩:=ownL.open (L:=Q1O) C.out;have ay:=Q00 (show((c.map Q3k).take i).length=i by rw[List.length_take,List.length_map];omega);rw[ay.out]at eq;subst eq;clear z F;obtain⟨W3,al⟩:∃W,J.alloc (.cells (ptA f) 266)=W:=⟨_,rfl⟩;have aa:=alb0v0v1 al;have a1:=Q00 (show RdL Q1O W3.heap.size W3 (some ⟨J.heap.size,0,none⟩) [f]by rw[<-al];exact Qhj J f);have ab:=Q00 (Q0a aD.out aa);have M:=Q00 (aT.out.trans (aa.mono (by omega)));have bm:=aa.size;clear aa
      go_wp2_with (first|(refine Q0B rfl (.tmp 7) (.tmp 42) rfl A.heap.size f ptZ rfl rfl (World.alloc_heap_new A _) ?_;rw[World.setRow_alloc_new,E])|(refine Q1u rfl (.tmp 7) rfl A.heap.size rfl f a2.out ?_)|(refine Q1I rfl (.tmp 48) rfl f rfl ?_;rw[al])|(at_builtin;refine Q08 Qil rfl (.tmp 47) (.tmp 49) rfl w2.heap.size (.slice oq i cq) ((c.map Q3k).take i) rfl ab.out (some ⟨J.heap.size,0,none⟩) 1 W3.heap.size [f] 1 rfl rfl (by simp) a1.out (by rw[ay.out];simp;omega) (by omega) ?_));intro v8 w8 aK aJ _
      have aU:=Q00 (M.out.grown aJ (by omega) (fun k h=>(ab.out.lt k h).1));have aX:=Q00 aK;clear aK aJ;go_wp2;go_roundw
      case rel=>exact⟨i+1,by omega,by go_num,by rw[aj.out];exact aX.out,(fun j hj=>by rcases Nat.lt_succ_iff_lt_or_eq.1 hj with h'|h';(· exact aB.out j h');(· rw[h',aW.out];exact aC.out)),aU.out⟩
      case measure=>simp[intOf];omega
    ·skip
     have e:i=n:=by omega
     subst e;have av:=Q00 (show(c.map Q3k).take i=c.map Q3k by rw[q.out,show c.length=(c.map Q3k).length by simp,List.take_length]);rw[av.out]at C;obtain⟨g,cq,eq⟩:=Qep C.out (by rw[List.length_map,<-q.out];omega);rw[List.length_map,<-q.out]at eq;subst eq;have ai:=Q00 (show wr.rangeAt g 0 (ptL (Q3k (c.getD 0 [])))from Qe5 C.out (by rw[<-q.out];omega));have a9:g < wr.heap.size:=(C.out.lt g rfl).2
     have ak:=Q00 (fun h6=>Q9E (m:=⟨key,l,c⟩) HK.out aw.out (by show 1<=c.length;rw[<-q.out];exact a6) (by show c.length<=3;rw[<-q.out];exact a7) (fun j hj=>aB.out j (by rw[q.out];exact hj)) h6);have ah:=Q00 (fun h6=>G.out (.inr (.inr (.inr (.inr (.inr h6))))));have aA:=Q00 (Q1i key o cap l wr.drew ((a0.out.kept d.out (Kaq _)).le d.out.size) an HK.out aw.out);have ax:=Q00 (fun W=>QiP (Q3k (c.getD 0 [])) (Q2E key l) W);obtain⟨f0,am⟩:∃f,Q3k (c.getD 0 [])=f:=⟨_,rfl⟩;obtain⟨f1,V⟩:∃f,Q2E key l=f:=⟨_,rfl⟩;dsimp only at ak ah;rw[am,V]at ak ah ax
     rw[am]at ai;rw[V]at aA;clear am V
     have bh:(0:Int) < (i:Int):=by omega
     have be:¬(i=0):=by omega
     have bi:=Qho;have aE:=Q00 H;clear H h1 h3;have ag:=Q00 (fun A (hb:Below wr.heap.size wr A)=>Qiw ((hb.block _ (show w.heap.size+1 < wr.heap.size by omega)).trans aE.out))
     have Z:w.heap.size < wr.heap.size:=by omega
     cases hr:Qae f0 f1
     all_goals
      go_wp2;refine wp_region_held_drew (S:=(fun w'=>w'.rangeAt g 0 (ptL f0)/\w'.cell? ⟨w.heap.size,0,none⟩=some (.int .i64 key)/\w'.cell? ⟨w.heap.size,1,none⟩=some (.slice o l.length cap))) (by kernel_rfl) ⟨ai.out,aQ,aR⟩ (fun hHeld=>?_);refine wpAnyH_take (i:=0) (oi:=_) (v:=.slice (some ⟨g,0,none⟩) i cq) rfl (by kernel_rfl) (by kernel_rfl) (by kernel_rfl) (fun _ _ _ h=>h) (Or.inl ⟨by rfl,fun w r=>by obtain⟨_,R,T⟩:=r;go_simp⟩) hHeld ?_
      try simp only[Act.put,List.setIfInBounds_toArray,List.set_cons_zero,List.set_cons_succ]
      refine wpAnyH_take (i:=1) (oi:=_) (v:=.pointer (some ⟨g,0,none⟩)) rfl (by kernel_rfl) (by kernel_rfl) (by kernel_rfl) (fun _ _ _ h=>h) (Or.inl ⟨by rfl,fun w r=>by obtain⟨_,R,T⟩:=r;go_simp⟩) hHeld ?_
      try simp only[Act.put,List.setIfInBounds_toArray,List.set_cons_zero,List.set_cons_succ]
      refine wpAnyH_take (i:=2) (oi:=_) (v:=ptv f0) rfl (by kernel_rfl) (by kernel_rfl) (by kernel_rfl) (fun _ _ _ h=>h) (yieldsIf_load_mid (by rfl) _ _ rfl g 0 rfl (ptL f0) _ (fun w h=>h.1) ptU rfl ptI) hHeld ?_
      try simp only[Act.put,List.setIfInBounds_toArray,List.set_cons_zero,List.set_cons_succ]
      refine wpAnyH_take (i:=3) (oi:=_) (v:=.pointer (some ⟨w.heap.size,0,none⟩)) rfl (by kernel_rfl) (by kernel_rfl) (by kernel_rfl) (fun _ _ _ h=>h) (Or.inl ⟨by rfl,fun w r=>by obtain⟨_,R,T⟩:=r;go_simp⟩) hHeld ?_
      try simp only[Act.put,List.setIfInBounds_toArray,List.set_cons_zero,List.set_cons_succ]
      refine wpAnyH_take (i:=4) (oi:=_) (v:=.int .i64 key) rfl (by kernel_rfl) (by kernel_rfl) (by kernel_rfl) (fun _ _ _ h=>h) (Or.inl ⟨by rfl,fun w r=>by obtain⟨_,R,T⟩:=r;go_simp⟩) hHeld ?_
      try simp only[Act.put,List.setIfInBounds_toArray,List.set_cons_zero,List.set_cons_succ]
      refine wpAnyH_take (i:=5) (oi:=_) (v:=.pointer (some ⟨w.heap.size,1,none⟩)) rfl (by kernel_rfl) (by kernel_rfl) (by kernel_rfl) (fun _ _ _ h=>h) (Or.inl ⟨by rfl,fun w r=>by obtain⟨_,R,T⟩:=r;go_simp⟩) hHeld ?_
      try simp only[Act.put,List.setIfInBounds_toArray,List.set_cons_zero,List.set_cons_succ]
      refine wpAnyH_take (i:=6) (oi:=_) (v:=.slice o l.length cap) rfl (by kernel_rfl) (by kernel_rfl) (by kernel_rfl) (fun _ _ _ h=>h) (Or.inl ⟨by rfl,fun w r=>by obtain⟨_,R,T⟩:=r;go_simp⟩) hHeld ?_
      try simp only[Act.put,List.setIfInBounds_toArray,List.set_cons_zero,List.set_cons_succ]
      refine wpAnyH_ready (rs:=[7]) (by kernel_rfl) (by simp) ?_;refine AllReadyH.cons rfl (fun K hK=>?_) AllReadyH.nil
      go_simp
      go_at_call 181;refine aA.out.mono ?_;rintro e A ⟨rfl,u⟩;replace u:Below wr.heap.size wr A:=(KHq KBq).trans u;have k0:=bC u aQ Z;have k1:=bC u aR Z;have k2:=bC u bd Z;have au:=Q1a ai.out u a9;obtain⟨q0,q1,q2,a3,a4,a5⟩:=ag.out A u;have M:=Q00 u;clear u;go_wp2_with fail;refine hK.out _ _ ⟨au,k0,k1⟩ (fun hHeld=>?_);clear hK K
      try simp only[Act.put,List.setIfInBounds_toArray,List.set_cons_zero,List.set_cons_succ]
      refine wpAnyH_ready (rs:=[8]) (by kernel_rfl) (by simp) ?_;refine AllReadyH.cons rfl (fun K hK=>?_) AllReadyH.nil;have aG:=ax.out A;rw[hr]at aG
      go_simp
      refine hK.out _ _ ⟨au,k0,k1⟩ (fun hHeld=>?_);clear hK K hHeld aG
      try simp only[Act.put,List.setIfInBounds_toArray,List.set_cons_zero,List.set_cons_succ]
      refine wpAnyH_done (by kernel_rfl) ?_ _;clear au;go_wp2
     ·refine bodyPost_ret (v:=.tuple #[Q5x 0 (.slice none 0 0) (.slice none 0 0),.bool false]) (by simp[results,Tryz.results214,go_sem,q0,q1,q2]) rfl (Q5o (ah.out hr) (Q0D (d.out.trans (M.out.mono d.out.size)) (Nat.le_succ _) _ _ _))
     ·refine bodyPost_ret (v:=.tuple #[Q5x key (.slice o l.length cap) (.slice (some ⟨g,0,none⟩) i cq),.bool true]) (by simp[results,Tryz.results214,go_sem,q0,q1,q2]) rfl ?_
      have af:=ak.out hr
      have Y:w.heap.size+1 < w2.heap.size:=by omega
      have aL:=Q0i (Q0i (Q0i (Q0a C.out M.out) Y 0 (.int .i64 key)) Y 1 (.slice o l.length cap)) Y 2 (.slice (some ⟨g,0,none⟩) i cq);have ba:=q.out;subst ba;exact⟨_,by rw[af],fun _=>⟨some ⟨g,0,none⟩,cq,rfl,Q06 aL (by omega)⟩,fun h=>absurd (h.symm.trans af) (by simp),Q0D (d.out.trans (M.out.mono d.out.size)) (Nat.le_succ _) _ _ _⟩
theorem Qd1 {l:List Int} {j:Nat} (b:j < l.length) (h:idB (l.getD j 0)=false):Q0G l=false:=by
 unfold Q0G
 by_cases h2:l.length=2
 ·have a:¬(l.length=0):=by omega
  match j,b,h with
  |0,_,h=>simp only[h];simp[a]
  |1,_,h=>simp only[h];simp[a]
  |j+2,b,_=>omega
 ·have a:¬(l.length=0):=by omega
  simp[h2,a]
theorem Qah {aa bb:List (List Int)}:∀k,Q0H aa bb k=0->∀i,i < k->aa.getD i []=bb.getD i []
 |0,_=>fun i hi=>absurd hi (KMq _)
 |k+1,h=>fun i hi=>by
  have c:=(Q3V aa bb k).1
  by_cases e:aa.getD k []=bb.getD k []
  ·have b:=Q2v (aa:=aa) (bb:=bb) (k:=k) rfl rfl e
   rcases Nat.lt_succ_iff_lt_or_eq.1 hi with a|a
   ·exact Qah k (by omega) i a
   ·rw[a];exact e
  ·have b:=Q3D (aa:=aa) (bb:=bb) (k:=k) rfl rfl e
   omega
theorem Q5t {aa bb:List (List Int)}:∀k,(∀i,i < k->aa.getD i []=bb.getD i [])->Q0H aa bb k=0
 |0,_=>rfl
 |k+1,h=>by
  rw[<-Q2v (aa:=aa) (bb:=bb) (k:=k) rfl rfl (h k (by omega))];exact Q5t k (fun i hi=>h i (by omega))
theorem QgJ {a:List (List Int)} (h:Q1e a=true):a.length=8/\∀i,i < 8->Q0G (a.getD i [])=true:=by
 unfold Q1e at h;simp only[Bool.and_eq_true,decide_eq_true_eq,List.all_eq_true,List.mem_range]at h;exact h
theorem Qgw {key:Int} {l:List Bk} {c:List (List Int)} (j:Q0d l=true) (h:Q1e c=true):Q0Y c (QaG key l)=0↔Qae (Q3k c) (Q2E key l)=true:=by
 obtain⟨g,m⟩:=QgJ h
 have k:Q0Y c (QaG key l)=Q0H c (QaG key l) 8:=by rw[Q0Y,if_pos ⟨g,Q2b key l⟩]
 rw[k]
 have f:∀i,i < 8->(QaG key l).getD i []=Q0U key i l:=fun i hi=>by unfold QaG;rw[Q1V _ _ _ hi]
 constructor
 ·intro a
  unfold Qae;rw[List.all_eq_true];intro i hi
  have b:i < 8:=by simpa using hi
  have d:=Qah 8 a i b;unfold Q3k Q2E;rw[d,f i b];exact beq_self_eq_true _
 ·intro a
  unfold Qae at a;rw[List.all_eq_true]at a;refine Q5t 8 (fun i hi=>?_);have d:=eq_of_beq (a i (by simpa using hi));unfold Q3k Q2E at d;rw[f i hi,<-Q4l (m i hi),d,Q4l (Q9b key i j)]
theorem Qeh {m:Pm} (b:Q1S m.key=true) (h2:Q0d m.l=true) (c:1<=m.ring.length) (d:m.ring.length<=3) (a:∀i,i < m.ring.length->Q1e (m.ring.getD i [])=true) (f:Q0Y (m.ring.getD 0 []) (QaG m.key m.l)=0):Q2U m=true:=
 Q9E b h2 c d a ((Qgw h2 (a 0 (by omega))).1 f)
theorem Q2W {m:Pm} (h:Q2U m=true):Q1S m.key=true/\Q0d m.l=true/\1<=m.ring.length/\m.ring.length<=3/\∀i,i < m.ring.length->Q1e (m.ring.getD i [])=true:=by
 unfold Q2U at h;simp only[Bool.and_eq_true,decide_eq_true_eq,List.all_eq_true,List.mem_range]at h;obtain⟨⟨⟨⟨⟨a,h2⟩,b⟩,c⟩,d⟩,f⟩:=h;exact⟨a,h2,b,c,d⟩
theorem Qcr {l:List Int} (h:Q0G l=true):l.length<=2:=by
 unfold Q0G at h;simp only[Bool.or_eq_true,Bool.and_eq_true,decide_eq_true_eq]at h;omega
def Q78 (out:List Int) (x:Int):List Int:=if out.contains x=true then out else out++[x]
def Q1J (out l:List Int):List Int:=l.foldl Q78 out
def Q1P (R:List (List (List Int))) (b:Nat):List Int:=R.foldl (fun out t=>Q1J out (t.getD b [])) []
def Qex (m:Pm) (b:Int):List Int:=if(Q2U m && decide (0<=b) && decide (b < 8))=true then Q1P m.ring b.toNat else[]
theorem Q6l (a l:List Int) (k:Nat) (h:k < l.length):Q1J a (l.take (k+1))=Q78 (Q1J a (l.take k)) (l.getD k 0):=by
 unfold Q1J;rw[List.take_succ_eq_append_getElem h,List.foldl_append,KFq,KGq h]
 rfl
theorem Q8a (R:List (List (List Int))) (b i:Nat) (h:i < R.length):Q1P (R.take (i+1)) b=Q1J (Q1P (R.take i) b) ((R.getD i []).getD b []):=by
 unfold Q1P;rw[List.take_succ_eq_append_getElem h,List.foldl_append,KFq (l:=R),KGq h]
 rfl
theorem Qf2 {l:List Int} {k:Nat} {x:Int} (h:k < l.length) (e:l.getD k 0=x):l.contains x=true:=by
 rw[List.contains_iff_mem,<-e,KFq,KGq h];exact List.getElem_mem h
theorem QgX {l:List Int} {x:Int} (h:∀j,j < l.length->l.getD j 0≠x):l.contains x=false:=by
 rw[Bool.eq_false_iff];intro a;rw[List.contains_iff_mem]at a;obtain⟨j,b,e⟩:=List.getElem_of_mem a;exact h j b (by rw[KFq,KGq b];exact e)
theorem Qa3 {out:List Int} {x:Int} (h:out.contains x=true):Q78 out x=out:=by unfold Q78;rw[if_pos h]
theorem Qct {out:List Int} {x:Int} (h:out.contains x=false):Q78 out x=out++[x]:=by unfold Q78;rw[if_neg (by rw[h];decide)]
theorem Qef {l:List Int} {x:Int} {k:Nat} (h:∀j,j < k->l.getD j 0≠x) (h2:l.getD k 0≠x):∀j,j < k+1->l.getD j 0≠x:=fun j hj=>by
 by_cases e:j=k
 ·subst e;exact h2
 ·exact h j (by omega)
theorem Qf7 {w:World} {x:Int} {T:TypeId}:RdL Q0T (w.alloc (.cells #[.int .i64 x] T)).heap.size (w.alloc (.cells #[.int .i64 x] T)) (some ⟨w.heap.size,0,none⟩) [x]:=
 .inr ⟨w.heap.size,0,rfl,by simp,fun i hi j b=>by
  have a:i=0:=by simpa using hi
  subst a
  match j,b with
  |0,_=>simp[Q0T]⟩
theorem Qfo (o:Option Addr) (c:Nat) (l:List Int) (x:Int) (w:World) (g:RdI w.heap.size w o l) (t:l.length<=1048576):
  Calls Tryz.prog 169 #[.slice o l.length c,.int .i64 x] w fun e q=>e=.returned (.bool (l.contains x))/\q=w:=by
 go_enter Tryz.func169,Tryz.ntmps169;go_wp2
 go_loopw [5] (fun i wr=> ∃k:Nat,k<=l.length/\i=.int .i64 k/\wr=w/\Hid (∀j,j < k->l.getD j 0≠x))
  (fun i _=>l.length - (intOf i).toNat)
 case atStart=>exact⟨0,Kcq _,rfl,rfl,fun j h=>absurd h (KMq _)⟩
 case round=>
  obtain⟨k,s,rfl,rfl,d⟩:=hrel
  by_cases hlt:k < l.length
  ·rcases g with g|⟨b,p,rfl,r,a⟩
   ·subst g;simp at hlt
   have m:=RdL.int a k hlt;clear a
   have u:(k:Int) < (l.length:Int):=by omega
   by_cases hx:l.getD k 0=x
   ·have f:=Q00 (Qf2 hlt hx)
    rw[hx]at m;clear hx d;go_wp2;go_ret;exact⟨by rw[f.out];rfl,rfl⟩
   ·have f:=Q00 (Qef d.out hx)
    obtain⟨y,n⟩:∃y,l.getD k 0=y:=⟨_,rfl⟩;rw[n]at m hx;clear n d;go_wp2;go_roundw
    case rel=>exact⟨k+1,by omega,by go_num,by trivial,f.out⟩
    case measure=>simp[intOf];omega
  ·have e:k=l.length:=by omega
   subst e;have f:=Q00 (QgX d.out);clear d;go_wp2;go_ret;exact⟨by rw[f.out];rfl,rfl⟩
theorem Qfa (o:Option Addr) (c:Nat) (l:List Int) (x:Int) (w:World) (g:RdI w.heap.size w o l) (v:l.length<=1048576):
  Calls Tryz.prog 240 #[.slice o l.length c,.int .i64 x] w fun e s=> ∃r:Int,e=.returned (.int .i64 r)/\decide (0<=r)=l.contains x/\s=w:=by
 go_enter Tryz.func240,Tryz.ntmps240;go_wp2
 go_loopw [8] (fun i wr=> ∃k:Nat,k<=l.length/\i=.int .i64 k/\wr=w/\Hid (∀j,j < k->l.getD j 0≠x))
  (fun i _=>l.length - (intOf i).toNat)
 case atStart=>exact⟨0,Kcq _,rfl,rfl,fun j h=>absurd h (KMq _)⟩
 case round=>
  obtain⟨k,u,rfl,rfl,d⟩:=hrel
  by_cases hlt:k < l.length
  ·rcases g with g|⟨b,q,rfl,t,a⟩
   ·subst g;simp at hlt
   have m:=RdL.int a k hlt;clear a
   have z:(k:Int) < (l.length:Int):=by omega
   by_cases hx:l.getD k 0=x
   ·have f:=Q00 (Qf2 hlt hx)
    rw[hx]at m;clear hx d;go_wp2;go_ret;exact⟨(k:Int),rfl,by rw[f.out];simp,rfl⟩
   ·have f:=Q00 (Qef d.out hx)
    obtain⟨y,n⟩:∃y,l.getD k 0=y:=⟨_,rfl⟩;rw[n]at m hx
    have p:¬x=y:=fun e=>hx e.symm
    clear n d;go_wp2;go_roundw
    case rel=>exact⟨k+1,by omega,by go_num,by trivial,f.out⟩
    case measure=>simp[intOf];omega
  ·have e:k=l.length:=by omega
   subst e;have f:=Q00 (QgX d.out);clear d;go_wp2;go_ret;exact⟨-1,rfl,by rw[f.out];rfl,rfl⟩
theorem Q9B (o:Option Addr) (c:Nat) (l:List Int) (x:Int) (w:World) (b:RdI w.heap.size w o l) (g:l.length<=1048576):
  Calls Tryz.prog 217 #[.slice o l.length c,.int .i64 x] w fun e h=>e=.returned (.bool (l.contains x))/\h=w:=by
 have a:=Q00 (Qfa o c l x w b g);clear b;go_enter Tryz.func217,Tryz.ntmps217;go_wp2_with fail;refine a.out.mono ?_;rintro e i ⟨r,rfl,d,rfl⟩;have f:=Q00 d;clear d a;go_wp2;go_ret;exact⟨by rw[<-f.out];rfl,rfl⟩
theorem Q6q (key:Int) (o:Option Addr) (nb cap:Nat) (oR:Option Addr) (cR:Nat) (a:List (List (List Int))) (n:Nat) (X:n=a.length) (b:Nat) (ah:b < 8) (w:World) (hG:RiR 0 w.heap.size w (.slice oR n cR) a) (au:n<=3) (h8:∀i,i < a.length->(a.getD i []).length=8) (h2:∀i,i < a.length->((a.getD i []).getD b []).length<=2):
  Calls Tryz.prog 120 #[plv key (.slice o nb cap) (.slice oR n cR),.int .i64 (b:Int)] w fun e w'=> ∃v,e=.returned v/\Q9o w' w.heap.size v (Q1P a b)/\Below w.heap.size w w':=by
 have M:=Q00 X;have HG:=Q00 hG;have H8:=Q00 h8;have H2:=Q00 h2;clear X hG h8 h2
 have al:(b:Int) < 8:=by omega
 obtain⟨A,G⟩:∃W,(w.alloc (.cells #[.int .i64 key,.slice o nb cap,.slice oR n cR] 29))=W:=⟨_,rfl⟩;have l:=alb0v0v1 G;have J:=Q00 l;clear l;have zz:=alz0v0v1 G
 have z2:A.cell? ⟨w.heap.size,2,none⟩=some (.slice oR n cR):=by rw[<-G];simp[go_sem]
 go_enter Tryz.func120,Tryz.ntmps120;go_wp2
 go_loopw [5,6] (fun ov iv wr=> ∃i:Nat,i<=n/\iv=.int .i64 (i:Int)/\Hid (Q9o wr A.heap.size ov (Q1P (a.take i) b))/\(Q1P (a.take i) b).length<=2 * i/\Hid (Below A.heap.size A wr))
  (fun _ iv _=>n - (intOf iv).toNat)
 case atStart=>exact⟨0,Kcq _,rfl,KLq _ _ _ _,by simp[Q1P],KBq⟩
 case round=>
  rename World=>wr
  rename_i ov _
  obtain⟨i,aq,rfl,N,hL,t⟩:=hrel;have ak:=bC t.out z2 zz;have d:=Q00 (J.out.trans (t.out.mono J.out.size))
  by_cases hlt:i < n
  ·have an:(i:Int) < (n:Int):=by omega
   have s:i < a.length:=by rw[<-M.out];exact hlt
   obtain⟨b1,aw,u,rfl,ai,j,I⟩:=RiRows.at HG.out (Kaq _) i s;obtain⟨o3,c3,rfl,_⟩:=RiT.rd I;obtain⟨b2,ao,u2,e2,R,B,C⟩:=RiRows.at I (Kaq _) b (by rw[H8.out i s];exact ah);subst e2;obtain⟨o9,c9,rfl,Z⟩:=RiV.open C;rw[H8.out i s]at j;have aj:=bC d.out j ai;have H:=bC d.out B R;have O:=Q00 Z;have ac:=H2.out i s;have D:=Q00 (Q8a a b i s);clear j B C Z I;obtain⟨row,ab⟩:∃row,(a.getD i []).getD b []=row:=⟨_,rfl⟩;rw[ab]at H O ac D;clear ab;obtain⟨x,T⟩:∃q,Q1P (a.take i) b=q:=⟨_,rfl⟩
   rw[T]at N hL D;clear T;obtain⟨m,hm⟩:∃r,row.length=r:=⟨_,rfl⟩;rw[hm]at H ac;have HM:=Q00 hm;clear hm;go_wp2
   go_loopw [5,8] (fun ov kv wq=> ∃k:Nat,k<=m/\kv=.int .i64 (k:Int)/\Hid (Q9o wq A.heap.size ov (Q1J x (row.take k)))/\(Q1J x (row.take k)).length<=2 * i+k/\Hid (Below A.heap.size A wq))
    (fun _ kv _=>m - (intOf kv).toNat)
   case atStart=>exact⟨0,Kcq _,rfl,N.out,by simpa[Q1J]using hL,t.out⟩
   case round=>
    rename World=>wq
    rename_i ax _
    obtain⟨k,ar,rfl,g,F,f⟩:=hrel;clear N t ak d aj H;have d:=Q00 (J.out.trans (f.out.mono J.out.size))
    by_cases hlk:k < m
    ·have am:(k:Int) < (m:Int):=by omega
     have z:k < row.length:=by rw[HM.out];exact hlk
     rcases O.out with hh|⟨b3,ad,rfl,ag,p⟩
     ·rw[hh]at z;exact absurd z (KMq _)
     have U:=bC d.out (RdL.int p k z) ag;have c:=Q00 (Q6l x row k z);clear p;obtain⟨y,hy⟩:∃y,row.getD k 0=y:=⟨_,rfl⟩;rw[hy]at U c;clear hy;obtain⟨E,j⟩:∃q,Q1J x (row.take k)=q:=⟨_,rfl⟩;rw[j]at g F c;clear j;obtain⟨oo,co,e5,aa⟩:=ownL.open (L:=Q0T) g.out;subst e5;have HH:=Q00 (Qfo oo co E y wq aa (by omega));clear aa;go_wp2_with fail;refine HH.out.mono ?_;rintro e w4 ⟨rfl,rfl⟩;clear HH
     cases hh:E.contains y with
     |true=>
      have P:=Q00 (Qa3 hh);go_wp2;go_roundw
      case rel=>exact⟨k+1,by omega,by go_num,by rw[c.out,P.out];exact g.out,by rw[c.out,P.out];omega,f.out⟩
      case measure=>simp[intOf];omega
     |false=>
      have P:=Q00 (Qct hh);have av:=f.out.size;have HA:=Q00 (World.ownsRow.alloc g.out (.cells #[.int .i64 y] 3));have ap:(w4.alloc (.cells #[.int .i64 y] 3)).cell? ⟨b3,ad+k,none⟩=some (.int .i64 y):=bC (KBq.alloc (Kaq _) _) U (by omega);go_wp2_with (first|(at_builtin;refine Q08 Qgs rfl (.tmp 37) (.tmp 42) rfl A.heap.size _ E rfl HA.out (some ⟨w4.heap.size,0,none⟩) 1 _ [y] 1 rfl rfl (by simp) Qf7 (by simp;omega) (by simp;omega) ?_));intro v5 w5 Y V _;have ae:=Q00 ((f.out.alloc f.out.size _).grown V (by simp;omega) (fun k h=>(HA.out.lt k h).1))
      have af:=Q00 Y;clear V Y;go_wp2;go_roundw
      case rel=>exact⟨k+1,by omega,by go_num,by rw[c.out,P.out];exact af.out,by rw[c.out,P.out,List.length_append];simp;omega,ae.out⟩
      case measure=>simp[intOf];omega
    ·have e:k=m:=by omega
     subst e;rw[<-HM.out,List.take_length,<-D.out]at g F;go_wp2;go_roundw
     case rel=>exact⟨i+1,by omega,by go_num,g.out,by rw[HM.out]at F;omega,f.out⟩
     case measure=>simp[intOf];omega
  ·have e:i=n:=by omega
   subst e;rw[M.out,List.take_length]at N;go_wp2;go_ret;exact⟨_,rfl,Q06 N.out J.out.size,d.out⟩
theorem Q64 {a:List (List Int)} (h:Q1e a=true):a.length=8/\∀b,b < 8->Q0G (a.getD b [])=true:=by
 unfold Q1e at h;simp only[Bool.and_eq_true,decide_eq_true_eq,List.all_eq_true,List.mem_range]at h;exact⟨h.1,h.2⟩
theorem Qeo (a:List Int) (x y:Int):y∈Q78 a x↔y∈a\/y=x:=by
 unfold Q78
 by_cases h:a.contains x=true
 ·rw[if_pos h]
  have b:x∈a:=by simpa using h
  exact⟨fun h=> .inl h,fun h=>h.elim id (fun e=>by rw[e];exact b)⟩
 ·rw[if_neg h];simp
theorem QdL (l:List Int):∀(b:List Int) (y:Int),y∈Q1J b l↔y∈b\/y∈l:=by
 induction l with
 |nil=>intro b y;simp[Q1J]
 |cons a l ih=>
  intro b y
  show y∈Q1J (Q78 b a) l↔_
  rw[ih,Qeo];simp[or_assoc]
theorem Qam (b:Nat) (R:List (List (List Int))):∀(c:List Int) (y:Int),y∈R.foldl (fun c t=>Q1J c (t.getD b [])) c↔y∈c\/∃t∈R,y∈t.getD b []:=by
 induction R with
 |nil=>intro c y;simp
 |cons a R ih=>
  intro c y;rw[List.foldl_cons,ih,QdL]
  constructor
  ·rintro((h|h)|⟨t,d,h2⟩)
   ·exact .inl h
   ·exact .inr ⟨a,by simp,h⟩
   ·exact .inr ⟨t,by simp[d],h2⟩
  ·rintro(h|⟨t,d,h2⟩)
   ·exact .inl (.inl h)
   ·rcases List.mem_cons.1 d with e|d
    ·subst e;exact .inl (.inr h2)
    ·exact .inr ⟨t,d,h2⟩
theorem QaU {c:List Int} (x:Int) (h:c.Nodup):(Q78 c x).Nodup:=by
 unfold Q78
 by_cases hc:c.contains x=true
 ·rw[if_pos hc];exact h
 ·rw[if_neg hc]
  have g:x∉c:=by simpa using hc
  rw[List.nodup_append];exact⟨h,by simp,fun a f b d e=>by simp at d;subst d;subst e;exact g f⟩
theorem Qas (l:List Int):∀{out:List Int},out.Nodup->(Q1J out l).Nodup:=by
 induction l with
 |nil=>intro out h;exact h
 |cons a l ih=>intro out h;exact ih (QaU a h)
theorem Q7q (b:Nat) (R:List (List (List Int))):∀{c:List Int},c.Nodup->(R.foldl (fun c t=>Q1J c (t.getD b [])) c).Nodup:=by
 induction R with
 |nil=>intro c h;exact h
 |cons a R ih=>intro c h;exact ih (Qas _ h)
theorem Q8S:∀(n:Nat) (l:List Int),l.Nodup->(∀x∈l,0<=x/\x < (n:Int))->l.length<=n
 |0,l,_,h=>by
  cases l with
  |nil=>simp
  |cons a l=>have:=h a (by simp);omega
 |n+1,l,hd,h=>by
  by_cases hn:((n:Int))∈l
  ·have f:=Q8S n (l.erase (n:Int)) (hd.erase _) (fun x c=>by
    have b:=(List.Nodup.mem_erase_iff hd).1 c;have:=h x b.2;have d:=b.1
    omega)
   rw[List.length_erase_of_mem hn]at f;omega
  ·have f:=Q8S n l hd (fun x c=>by
    have:=h x c
    have d:x≠(n:Int):=fun e=>hn (e ▸ c)
    omega)
   omega
theorem Qg3 {l:List Int} (h:Q0G l=true):∀x∈l,0<=x/\x < 6:=by
 intro x c;obtain⟨j,a,rfl⟩:=List.getElem_of_mem c
 cases hid:idB (l[j])with
 |true=>unfold idB at hid;simp at hid;omega
 |false=>
  have b:=Qd1 (l:=l) a (by rw[KFq,KGq a];exact hid);rw[b]at h
  cases h
theorem RiV.grow {α:Type} {L:Lay α} {a b:Nat} {w d:World} {v:Value} {l:List α} {r:Option Nat} (h:RiV L a b w v l) (c:w.grownBy d r) (f:∀g,r=some g->g < a\/b<=g):RiV L a b d v l:=by
 cases r with
 |none=>exact h.step (Stp.grown (lo:=0) (hi:=0) c (fun b e=>by cases e)) (.inl (Kcq _))
 |some g=>exact h.step (Stp.grown (lo:=g) (hi:=g+1) c (fun b e=>by injection e with e;omega)) (by have:=f g rfl;omega)
theorem QgB (f:Pt) (b:Nat) (h:b < 8):(ptA f)[b * 3]? =some (.bool (f b).1)/\(ptA f)[b * 3+1]? =some (.int .i64 (f b).2.1)/\(ptA f)[b * 3+2]? =some (.int .i64 (f b).2.2):=by
 have a:∀j,j < 3->(ptA f)[b * 3+j]? =(QgK.cs (((List.range 8).map f).getD b QgK.d))[j]? :=fun j c=>by
  have:=Q35 QgK ((List.range 8).map f) b j (by simpa using h) c;rw[show QgK.k=3 from rfl]at this;unfold ptA ptL;rw[List.getElem?_toArray];exact this
 have e:((List.range 8).map f).getD b QgK.d=f b:=by simp[h]
 rw[e]at a;exact⟨a 0 (by decide),a 1 (by decide),a 2 (by decide)⟩
theorem QhN (R:List (List (List Int))) (i:Nat) (h:i < R.length):(R.map Q3k).getD i ptZ=Q3k (R.getD i []):=by simp[h]
theorem Q5a (v:Value) (m:Pm) (q:Int) (w:World) (hR:Q8f w.heap.size w v m) (hf:Q3a m):
  Calls Tryz.prog 173 #[v,.int .i64 q] w fun e w'=> ∃v',e=.returned v'/\Q9o w' w.heap.size v' (Qex m q)/\Below w.heap.size w w':=by
 have s:=Q00 (show Qex m q=if(Q2U m && decide (0<=q) && decide (q < 8))=true then Q1P m.ring q.toNat else[]from rfl);have am:=Q00 (fun h:Q2U m=true=>Q2W h);obtain⟨vb,vr,rfl,aC,rr⟩:=hR;obtain⟨o,c,rfl,r⟩:=aC.open;obtain⟨oR,cR,rfl⟩:=RiR.len rr;obtain⟨key,l,a⟩:=m;dsimp only at *;clear aC;obtain⟨W0,af⟩:∃W,(w.alloc (.cells #[.int .i64 key,.slice o l.length c,.slice oR a.length cR] 29))=W:=⟨_,rfl⟩;have B:=alb0v0v1 af;have X:=Q00 B;clear B;have zz:=alz0v0v1 af;obtain⟨z0,z1,z2⟩:=alc3v0v1 af
 have au:=Q00 (Qb7 key o c l oR cR a a.length rfl W0 ((r.kept X.out (Kaq _)).le X.out.size) (RiR.mon.go (RiR.stp.go rr (Stp.of (lo:=0) (hi:=0) X.out) (.inl (Kcq _))) (Kaq _) X.out.size) hf);have u:=Q00 (fun W=>Q1Y q W);clear r rr;go_enter Tryz.func173,Tryz.ntmps173;go_wp2_with fail;refine au.out.mono ?_;rintro e v1 ⟨vP,rfl,h1,h2,hb⟩;have p:=Q00 (X.out.trans (hb.mono X.out.size));clear hb au X z0 z1 z2 zz
 cases hp:Q2U ⟨key,l,a⟩with
 |false=>
  rw[hp]at s;have e2:=h2 hp;subst e2;clear h1 h2;go_wp2;go_ret;exact⟨_,rfl,by rw[s.out];exact KLq _ _ _ _,p.out.alloc p.out.size _⟩
 |true=>
  rw[hp]at s;obtain⟨o2,c2,e2,U⟩:=h1 hp;have HF:=Q00 (am.out hp);subst e2;have aK:=Q00 (ownL.rds (L:=Q1O) U);clear h1 h2 am U hp
  by_cases h0:q < 0
  ·have T:(decide (0<=q) && decide (q < 8))=false:=by simp;omega
   rw[T]at u;clear T;go_wp2_with (first|(go_at_call 215;refine(u.out _).mono ?_;rintro e w1 ⟨rfl,rfl⟩));go_ret;exact⟨_,rfl,by rw[s.out,if_neg (by simp;omega)];exact KLq _ _ _ _,p.out.alloc p.out.size _⟩
  by_cases h8:8<=q
  ·have T:(decide (0<=q) && decide (q < 8))=false:=by simp;omega
   rw[T]at u;clear T;go_wp2_with (first|(go_at_call 215;refine(u.out _).mono ?_;rintro e w1 ⟨rfl,rfl⟩));go_ret;exact⟨_,rfl,by rw[s.out,if_neg (by simp;omega)];exact KLq _ _ _ _,p.out.alloc p.out.size _⟩
  obtain⟨b,rfl⟩:∃b:Nat,q=(b:Int):=⟨q.toNat,by omega⟩
  have aw:b < 8:=by omega
  have aS:(b:Int) < 8:=by omega
  have T:(decide (0<=(b:Int)) && decide ((b:Int) < 8))=true:=by simp;omega
  rw[T]at u;have al:=Q00 (show Qex ⟨key,l,a⟩ (b:Int)=Q1P a b by rw[s.out,if_pos (by simp;omega)];simp);clear T s h0 h8;obtain⟨n,hn⟩:∃n,a.length=n:=⟨_,rfl⟩;rw[hn];have aq:=Q00 hn
  have aZ:n<=3:=by rw[<-hn];exact HF.out.2.2.2.1
  clear hn;obtain⟨P,ag⟩:∃W,v1.alloc (.cells #[.int .i64 key,.slice o l.length c,.slice o2 n c2] 218)=W:=⟨_,rfl⟩;have ai:=alb0v0v1 ag;have zz:=alz0v0v1 ag
  have z2:P.cell? ⟨v1.heap.size,2,none⟩=some (.slice o2 n c2):=by rw[<-ag];simp[go_sem]
  have Y:=Q00 (p.out.trans (ai.mono p.out.size));have HV:=Q00 ai;clear ai;go_wp2_with (first|(go_at_call 215;refine(u.out _).mono ?_;rintro e w1 ⟨rfl,rfl⟩))
  go_loopw [7,27] (fun ov iv wr=> ∃i:Nat,i<=n/\iv=.int .i64 (i:Int)/\Hid (Q9o wr P.heap.size ov (Q1P (a.take i) b))/\(Q1P (a.take i) b).length<=2 * i/\Hid (Below P.heap.size P wr))
   (fun _ iv _=>n - (intOf iv).toNat)
  case atStart=>exact⟨0,Kcq _,rfl,KLq _ _ _ _,by simp[Q1P],KBq⟩
  case round=>
   rename World=>wr
   rename_i ov _
   obtain⟨i,aX,rfl,HO,hL,A⟩:=hrel
   by_cases hlt:i < n
   ·have aU:(i:Int) < (n:Int):=by omega
    have J:i < a.length:=by rw[aq.out];exact hlt
    have av:=Q00 (aK.out.kept (HV.out.trans (A.out.mono HV.out.size)) (Kaq _))
    rcases av.out with hh|⟨b1,aR,rfl,aW,V⟩
    ·have:(a.map Q3k).length=0:=by rw[hh];rfl
     rw[List.length_map]at this;omega
    have D:=Q00 (RdL.range V i (by rw[List.length_map];exact J));have ac:=Q00 (Q8a a b i J);have t:=(Q64 (HF.out.2.2.2.2 i J)).2 b aw;clear V av;rw[QhN a i J]at D;obtain⟨f,aj⟩:∃f,Q3k (a.getD i [])=f:=⟨_,rfl⟩;rw[aj]at D;have an:=Q00 (show Q2r (f b)=(a.getD i []).getD b []by rw[<-aj];exact Q4l t);have aD:=Qcr t;clear aj t;obtain⟨row,aB⟩:∃row,(a.getD i []).getD b []=row:=⟨_,rfl⟩;rw[aB]at an aD ac;clear aB;obtain⟨F,ax⟩:∃q,Q1P (a.take i) b=q:=⟨_,rfl⟩;rw[ax]at HO hL ac;clear ax
    obtain⟨R,ah⟩:∃W,wr.alloc (.cells (ptA f) 266)=W:=⟨_,rfl⟩;have G:=alb0v0v1 ah
    have O:R.heap[wr.heap.size]? =some (.cells (ptA f) 266 (0,0)):=by rw[<-ah];exact World.alloc_heap_new wr _
    have N:=QgB f b aw;have y0:R.cell? ⟨wr.heap.size,b * 3,none⟩=some (.bool (f b).1):=Q02 O _ _ N.1;have y1:R.cell? ⟨wr.heap.size,b * 3+1,none⟩=some (.int .i64 (f b).2.1):=Q02 O _ _ N.2.1;have y2:R.cell? ⟨wr.heap.size,b * 3+2,none⟩=some (.int .i64 (f b).2.2):=Q02 O _ _ N.2.2;have ao:=Q00 (Qck (f b) R);have a0:=G.size;have Z:=Q00 (A.out.trans (G.mono A.out.size));have ap:=Q00 (fun g e=>(HO.out.lt g e).2);have j:=Q00 (Q0a HO.out G);clear G O N HO A
    go_wp2_with (first|(refine wpList_load_mid rfl 266 (.tmp 29) rfl b1 (aR+i * 24) rfl (ptL f) _ D.out ptU rfl ptI ?_)|(refine Q0B rfl (.tmp 9) (.tmp 30) rfl wr.heap.size f ptZ rfl rfl (World.alloc_heap_new wr _) ?_;rw[World.setRow_alloc_new,ah])|fail);refine ao.out.mono ?_;rintro e v3 ⟨o4,c4,rfl,aF,H⟩;have E:=Q00 (InRow.ri (InRow.of aF));rw[an.out]at E ⊢;have a1:=H.size;have ar:=Q00 (Q0a j.out H);have ak:=Q00 (Z.out.trans (H.mono Z.out.size));clear aF H j Z ao y0 y1 y2;obtain⟨m,hm⟩:∃r,row.length=r:=⟨_,rfl⟩;rw[hm]at aD E ⊢;have HM:=Q00 hm;clear hm
    go_wp2
    go_loopw [7,36] (fun ov kv wq=> ∃k:Nat,k<=m/\kv=.int .i64 (k:Int)/\Hid (Q9o wq P.heap.size ov (Q1J F (row.take k)))/\(Q1J F (row.take k)).length<=2 * i+k/\Hid (Below P.heap.size P wq)/\Hid (RiV Q0T R.heap.size v3.heap.size wq (.slice o4 m c4) row)/\v3.heap.size<=wq.heap.size/\Hid (∀g,ov.ownBlock=some g->g < R.heap.size\/v3.heap.size<=g))
     (fun _ kv _=>m - (intOf kv).toNat)
    case atStart=>exact⟨0,Kcq _,rfl,ar.out,by simpa[Q1J]using hL,ak.out,E.out,Kaq _,fun g e=> .inl (by have:=ap.out g e;omega)⟩
    case round=>
     rename World=>wq
     rename_i a3 _
     obtain⟨k,aY,rfl,j,ae,z,ab,aP,aa⟩:=hrel;clear ar ak E D ap
     by_cases hlk:k < m
     ·have aT:(k:Int) < (m:Int):=by omega
      have M:k < row.length:=by rw[HM.out];exact hlk
      obtain⟨o5,c5,e6,aO⟩:=RiV.open ab.out;injection e6 with e7 e8 e9;subst e7
      rcases aO with hh|⟨b3,aE,rfl,aV,C⟩
      ·rw[hh]at M;exact absurd M (KMq _)
      have aN:wq.cell? ⟨b3,aE+k,none⟩=some (.int .i64 (row.getD k 0)):=RdL.int C k M;have d:=Q00 (Q6l F row k M);clear C e8 e9;obtain⟨y,hy⟩:∃y,row.getD k 0=y:=⟨_,rfl⟩;rw[hy]at aN d;clear hy;obtain⟨ad,ay⟩:∃q,Q1J F (row.take k)=q:=⟨_,rfl⟩;rw[ay]at j ae d;clear ay;obtain⟨oo,co,e5,aA⟩:=ownL.open (L:=Q0T) j.out;subst e5;have HH:=Q00 (Q9B oo co ad y wq aA (by omega));clear aA;go_wp2_with fail;refine HH.out.mono ?_;rintro e w4 ⟨rfl,rfl⟩;clear HH
      cases hh:ad.contains y with
      |true=>
       have HY:=Q00 (Qa3 hh);go_wp2;go_roundw
       case rel=>exact⟨k+1,by omega,by go_num,by rw[d.out,HY.out];exact j.out,by rw[d.out,HY.out];omega,z.out,ab.out,aP,aa.out⟩
       case measure=>simp[intOf];omega
      |false=>
       have HY:=Q00 (Qct hh);have a2:=z.out.size;have HA:=Q00 (World.ownsRow.alloc j.out (.cells #[.int .i64 y] 3));have aM:=Q00 (ab.out.step (Stp.of (lo:=0) (hi:=0) ((Below.refl w4.heap.size w4).alloc (Kaq _) (.cells #[.int .i64 y] 3))) (.inl (Kcq _)));go_wp2_with (first|(at_builtin;refine Q08 Qgs rfl (.tmp 44) (.tmp 46) rfl P.heap.size _ ad rfl HA.out (some ⟨w4.heap.size,0,none⟩) 1 _ [y] 1 rfl rfl (by simp) Qf7 (by simp;omega) (by simp;omega) ?_));intro v5 w5 az I x;have aG:=Q00 ((z.out.alloc z.out.size _).grown I (by simp;omega) (fun k h=>(HA.out.lt k h).1))
       have aJ:=Q00 az;have aL:=Q00 (aM.out.grow I aa.out)
       have aQ:v3.heap.size<=w5.heap.size:=by have:=I.size;simp at this;omega
       have aI:Hid (∀g,v5.ownBlock=some g->g < R.heap.size\/v3.heap.size<=g):=fun g e=>by
        rcases x with x|x
        ·rw[x]at e;exact aa.out g e
        ·rw[x]at e;have:=Option.some.inj e;omega
       clear I az x;go_wp2;go_roundw
       case rel=>exact⟨k+1,by omega,by go_num,by rw[d.out,HY.out];exact aJ.out,by rw[d.out,HY.out,List.length_append];simp;omega,aG.out,aL.out,aQ,aI.out⟩
       case measure=>simp[intOf];omega
     ·have e:k=m:=by omega
      subst e;rw[<-HM.out,List.take_length,<-ac.out]at j ae;go_wp2;go_roundw
      case rel=>exact⟨i+1,by omega,by go_num,j.out,by rw[HM.out]at ae;omega,z.out⟩
      case measure=>simp[intOf];omega
   ·have e:i=n:=by omega
    subst e;rw[<-aq.out,List.take_length]at HO;have aH:=Q00 (Y.out.trans (A.out.mono Y.out.size));go_wp2;go_ret;exact⟨_,rfl,by rw[al.out];exact Q06 HO.out Y.out.size,aH.out⟩
theorem Qes (cs:List Cd):∀q,(Q1E cs q).getD 0 []=Q0j cs q
 |0=>rfl
 |q+1=>by unfold Q1E;simp
theorem QaB {key b:Int} {cs:List Cd} (h:Q0n key cs b=true):∀q,q<=cs.length->∀l∈Q1E cs q,Q0d l=true
 |0,_,l,a=>by
  have:l=[]:=by simpa[Q1E]using a
  subst this;exact(Q2Y h 0 (by omega)).1
 |q+1,hq,l,a=>by
  unfold Q1E at a;have a:=List.mem_of_mem_take a
  rcases List.mem_cons.1 a with e|a
  ·rw[e];exact(Q2Y h (q+1) (by omega)).1
  ·exact QaB h q (by omega) l a
theorem Qgv (cs:List Cd):∀q,1<=(Q1E cs q).length
 |0=>by simp[Q1E]
 |q+1=>by unfold Q1E;simp
theorem Qbl {m:Jm} (h:Q0n m.key m.l m.safe=true):Q2U (Q0Q m)=true:=by
 have e:Q0Q m=⟨m.key,Q0j m.l m.l.length,Q2d m.key (Q1E m.l m.l.length)⟩:=by unfold Q0Q;rw[if_pos h]
 have d:=QaA m.l m.l.length;have c:=Qgv m.l m.l.length
 have b:(Q2d m.key (Q1E m.l m.l.length)).length=(Q1E m.l m.l.length).length:=by simp[Q2d]
 have a:=(Q2Y h m.l.length (by omega)).1;rw[e];refine Qeh (Q2c h).1 a (by dsimp only;omega) (by dsimp only;omega) (fun i hi=>?_) ?_
 ·dsimp only at hi ⊢
  rw[Q2P _ _ _ (by omega)];refine Q9F m.key (QaB h m.l.length (Kaq _) _ ?_);rw[KFq,KGq (by omega)];exact List.getElem_mem _
 ·dsimp only
  rw[Q2P _ _ _ (by omega),Qes];unfold Q0Y;rw[if_pos ⟨Q2b _ _,Q2b _ _⟩];exact Q5t 8 (fun _ _=>rfl)
end Go.Proofs.YteffhdcankkfkaaGreat
