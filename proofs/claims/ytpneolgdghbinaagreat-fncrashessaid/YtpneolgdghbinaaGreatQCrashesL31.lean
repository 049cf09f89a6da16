/- Several texts in one: SPe, SPf, SPok, SPdo, SPdo2, CutP, NoteMath, SCan, SDr4b, SDr4c, SDrP, SDrP2, CandMath, SCan2, SamePool. -/
import Derived.Laws.StructEq
import Derived.Test.YtpneolgdghbinaaGreatQCrashesL28
namespace Go.Proofs.YtpneolgdghbinaaGreat
open Go.ChangeShapes Go.WideShapes Go.ChangeAt Go.RowKit Go.Joins
set_option linter.unusedVariables false
set_option linter.unusedSimpArgs false
set_option maxRecDepth 100000
set_option maxHeartbeats 40000000
def QaR (f g:Pt):Bool:=(List.range 8).all (fun i=>f i==g i)
theorem Qj7:Tryz.prog.underlying 184=some (.array 2 3):=by kernel_rfl
theorem Qhz:Tryz.prog.cellsOf 3=1:=by kernel_rfl
theorem Qij:(Tryz.prog.info? 186).isSome=true:=by kernel_rfl
theorem Qhr:Tryz.prog.cellsOf 186=3:=by kernel_rfl
theorem Qcd (w:World) (a b:Int):(part 3 #[.int .i64 a,.int .i64 b] 0).run Tryz.prog w=.ok (.int .i64 a) w:=run_part_plain w (by kernel_rfl) rfl
theorem Qcu (w:World) (a b:Int):(part 3 #[.int .i64 a,.int .i64 b] 1).run Tryz.prog w=.ok (.int .i64 b) w:=run_part_plain w (by kernel_rfl) rfl
theorem Qgy (w:World) (s:Bool) (a b:Int):(part 4 #[.bool s,.int .i64 a,.int .i64 b] 0).run Tryz.prog w=.ok (.bool s) w:=run_part_plain w (by kernel_rfl) rfl
theorem Qha (d:Nat) (a b c f:Int) (w:World):(Op.equalIn (d+1+1) 184 (.agg #[.int .i64 a,.int .i64 b]) (.agg #[.int .i64 c,.int .i64 f])).run Tryz.prog w=.ok (a==c && b==f) w:=by
 obtain⟨i,hi⟩:∃i,Tryz.prog.info? 3=some i:=by
  cases h:Tryz.prog.info? 3 with
  |none=>have:=Qbl;rw[h]at this;cases this
  |some i=>exact⟨i,rfl⟩
 have g:=Tryz.underlying3;rw[run_equalIn_array w (d+1) _ _ Qj7 hi,Qhz,show List.range 2=[0,1]from rfl];simp only[Op.eqItems,Nat.zero_mul,Nat.one_mul,Nat.mul_one,Sem.run_bind,Qcd,Qcu,Result.andThen_ok,run_equalIn_int w d 3 .i64 .i64 _ _ g]
 by_cases h1:a=c <;> by_cases h2:b=f <;> simp[h1,h2,Qcd,Qcu,Sem.run_bind,run_equalIn_int w d 3 .i64 .i64 _ _ g]
theorem Qeb (w:World) (s:Bool) (a b:Int):(part 184 #[.bool s,.int .i64 a,.int .i64 b] 1).run Tryz.prog w=.ok (.agg #[.int .i64 a,.int .i64 b]) w:=by
 have d:(isAgg 184).run Tryz.prog w=.ok true w:=by simp[go_sem]
 have h2:(sizeOf 184).run Tryz.prog w=.ok 2 w:=by
  have c:(Tryz.prog.info? 184).map (·.size)=some 2:=by kernel_rfl
  cases hq:Tryz.prog.info? 184 with
  |none=>simp[hq]at c
  |some i=>simp[hq]at c;simp[sizeOf,typeInfo,hq,c]
 simp[part,Sem.run_bind,d,h2]
theorem QiO (d:Nat) (p q:Ip) (w:World):(Op.equalIn (d+1+1+1) 186 (ipv p) (ipv q)).run Tryz.prog w=.ok (p==q) w:=by
 obtain⟨s,a,b⟩:=p;obtain⟨s',a',b'⟩:=q
 have hS:Tryz.prog.underlying 186=some (.struct (Tryz.prog.fieldsOf 186)):=by kernel_rfl
 have hF:(Tryz.prog.fieldsOf 186).toList.map (fun f=>(f.name,f.type,f.offset))=[("some",4,0),("ids",184,1)]:=by kernel_rfl
 rw[run_equalIn_struct w (d+1+1) 186 _ _ hS (by kernel_rfl)];generalize (Tryz.prog.fieldsOf 186).toList=fs at hF ⊢
 match fs,hF with
 |[],hF=>simp at hF
 |[_],hF=>simp at hF
 |_::_::_::_,hF=>simp at hF
 |[f1,f2],hF=>
  simp only[List.map_cons,List.map_nil,List.cons.injEq,Prod.mk.injEq,and_true]at hF;obtain⟨⟨n1,t1,o1⟩,n2,t2,o2⟩:=hF;have hb:=Tryz.underlying4
  have hn1:¬(f1.name= "_"):=by rw[n1];decide
  have hn2:¬(f2.name= "_"):=by rw[n2];decide
  have e:((s,a,b)==(s',a',b'))=(s==s' && (a==a' && b==b')):=rfl;rw[e];simp only[Op.eqFields,ne_eq,hn1,hn2,not_false_eq_true,if_true,t1,t2,o1,o2,Sem.run_bind,Qgy,Qeb,Qha,Result.andThen_ok,run_equalIn_bool' w (d+1) 4 _ _ hb]
  by_cases h1:s=s'
  ·subst h1
   simp only[beq_self_eq_true,Bool.not_true,Bool.false_eq_true,if_false,Sem.run_bind,Qeb,Qha,Result.andThen_ok,Bool.true_and]
   cases hc:(a==a' && b==b') <;> simp
  ·have h1':(s==s')=false:=beq_eq_false_iff_ne.2 h1
   rw[h1'];simp
theorem Qh8 (w:World) (f:Pt) (i:Nat) (h:i < 8):(part 186 (ptA f) (i * 3)).run Tryz.prog w=.ok (ipv (f i)) w:=by
 simp[part,Sem.run_bind,QhT,QdQ,Qca f i h]
theorem Qcr (d:Nat) (f g:Pt) (w:World):∀a:List Nat,(∀i∈a,i < 8)->(Op.eqItems (d+1+1+1) 186 3 (ptA f) (ptA g) a).run Tryz.prog w=.ok (a.all (fun i=>f i==g i)) w
 |[],_=>by simp[Op.eqItems]
 |i::a,h=>by
  have hi:=h i (by simp);simp only[Op.eqItems,Sem.run_bind,Qh8 w f i hi,Qh8 w g i hi,QiO,Result.andThen_ok]
  cases hc:(f i==g i)with
  |false=>simp[hc]
  |true=>simp only[Bool.not_true,Bool.false_eq_true,if_false];rw[Qcr d f g w a (fun j b=>h j (by simp[b]))];simp[hc]
theorem QiR (f g:Pt) (w:World):(Op.equalIn 10000 188 (ptv f) (ptv g)).run Tryz.prog w=.ok (QaR f g) w:=by
 have hi:=Qij
 cases hq:Tryz.prog.info? 186 with
 |none=>rw[hq]at hi;cases hi
 |some i=>
  rw[show(10000:Nat)=9996+1+1+1+1 from rfl,run_equalIn_array w (9996+1+1+1) _ _ ptU hq,Qhr];exact Qcr 9996 f g w _ (fun i hi=>by simpa using hi)
def Q1M (m:Pm):Bool:=Q1D m.key && Q0b m.l && decide (1<=m.ring.length) && decide (m.ring.length<=3) && (List.range m.ring.length).all (fun i=>Q1j (m.ring.getD i [])) && QaR (Q30 (m.ring.getD 0 [])) (Q2y m.key m.l)
theorem Qg7 {m:Pm} (h:Q1D m.key=false\/Q0b m.l=false\/m.ring.length < 1\/3 < m.ring.length\/(∃i,i < m.ring.length/\Q1j (m.ring.getD i [])=false)\/QaR (Q30 (m.ring.getD 0 [])) (Q2y m.key m.l)=false):Q1M m=false:=by
 rw[Bool.eq_false_iff];intro a;unfold Q1M at a;simp only[Bool.and_eq_true,decide_eq_true_eq,List.all_eq_true,List.mem_range]at a;obtain⟨⟨⟨⟨⟨b,h2⟩,f⟩,g⟩,c⟩,d⟩:=a
 rcases h with h|h|h|h|⟨i,hi,h⟩|h
 ·rw[b]at h;cases h
 ·rw[h2]at h;cases h
 ·omega
 ·omega
 ·rw[c i hi]at h;cases h
 ·rw[d]at h;cases h
theorem Qa2 {m:Pm} (a:Q1D m.key=true) (h2:Q0b m.l=true) (b:1<=m.ring.length) (c:m.ring.length<=3) (d:∀i,i < m.ring.length->Q1j (m.ring.getD i [])=true) (f:QaR (Q30 (m.ring.getD 0 [])) (Q2y m.key m.l)=true):Q1M m=true:=by
 unfold Q1M;simp only[Bool.and_eq_true,decide_eq_true_eq,List.all_eq_true,List.mem_range];exact⟨⟨⟨⟨⟨a,h2⟩,b⟩,c⟩,d⟩,f⟩
def Qid (m:Pm) (o:Option Addr) (cap:Nat) (w:World) (e:Ending) (w':World):Prop:=∃vP,e=.returned (.tuple #[vP,.bool (Q1M m)])/\(Q1M m=true->∃o2 c2,vP=Q6p m.key (.slice o m.l.length cap) (.slice o2 m.ring.length c2)/\ownL Q1T 188 w' w.heap.size (.slice o2 m.ring.length c2) (m.ring.map Q30))/\(Q1M m=false->vP=Q6p 0 (.slice none 0 0) (.slice none 0 0))/\Below w.heap.size w w'
theorem Q5T {m:Pm} {o:Option Addr} {cap:Nat} {w a:World} (h:Q1M m=false) (c:Below w.heap.size w a):Qid m o cap w (.returned (.tuple #[Q6p 0 (.slice none 0 0) (.slice none 0 0),.bool false])) a:=
 ⟨_,by rw[h],fun b=>absurd (h.symm.trans b) (by simp),fun _=>rfl,c⟩
theorem QhC (w:World) (f:Pt):RdL Q1T (w.alloc (.cells (ptA f) 188)).heap.size (w.alloc (.cells (ptA f) 188)) (some ⟨w.heap.size,0,none⟩) [f]:=ownL.rd (L:=Q1T) (Q5x w f)
theorem Qgg (R:List (List (List Int))) (i:Nat) (h:i < R.length):(R.map Q30).take (i+1)=(R.map Q30).take i++[Q30 (R.getD i [])]:=by
 have a:i < (R.map Q30).length:=by rw[List.length_map];exact h
 rw[List.take_succ_eq_append_getElem a];simp[h]
theorem Qe8 {w:World} {base:Nat} {v:Value} {a:List Pt} (h:ownL Q1T 188 w base v a) (f:0 < a.length):∃g c,v=.slice (some ⟨g,0,none⟩) a.length c:=by
 rcases h.2 with⟨_,d⟩|⟨g,cap,b,e,_⟩
 ·omega
 ·exact⟨g,cap,e⟩
theorem Qer {w:World} {base g n c:Nat} {a:List (List (List Int))} (h:ownL Q1T 188 w base (.slice (some ⟨g,0,none⟩) n c) (a.map Q30)) (d:0 < a.length):w.rangeAt g 0 (ptL (Q30 (a.getD 0 []))):=by
 rcases ownL.rds (L:=Q1T) h with i|⟨b,off,e,_,r⟩
 ·have:(a.map Q30).length=0:=by rw[i];rfl
  rw[List.length_map]at this;omega
 ·injection e with e
  injection e with e1 e2 e3;subst e1 e2;have h2:=RdL.range r 0 (by rw[List.length_map];exact d)
  have f:(a.map Q30).getD 0 ptZ=Q30 (a.getD 0 []):=by simp[d]
  rw[f]at h2
  simpa using h2
theorem Qif {W:World} {B:Nat} {x y z:Value} {T:TypeId} (h:W.heap[B]? =some (.cells #[x,y,z] T (0,0))):W.cell? ⟨B,0,none⟩=some x/\W.cell? ⟨B,1,none⟩=some y/\W.cell? ⟨B,2,none⟩=some z/\W.frozen? ⟨B,0,none⟩=false/\W.frozen? ⟨B,1,none⟩=false/\W.frozen? ⟨B,2,none⟩=false:=
 ⟨Q00 h 0 _ rfl,Q00 h 1 _ rfl,Q00 h 2 _ rfl,Q01 h 0,Q01 h 1,Q01 h 2⟩
theorem QhD:Tryz.prog.eqGuardType Tryz.prog.depth 188=false:=by kernel_rfl
theorem Q7x (key:Int) (o:Option Addr) (cap:Nat) (l:List Bk) (oR:Option Addr) (cR:Nat) (c:List (List (List Int))) (n:Nat) (ar:n=c.length) (w:World) (hR:RdK w.heap.size w o l) (hG:RiR 0 w.heap.size w (.slice oR n cR) c) (hf:Q2q ⟨key,l,c⟩):
  Calls Tryz.prog 142 #[plv key (.slice o l.length cap) (.slice oR n cR)] w fun e w'=>Qid ⟨key,l,c⟩ o cap w e w':=by
 have q:=Q02 ar;obtain⟨an,aH,aI,ao,ap⟩:=hf;dsimp only at an aH aI ao ap;rw[<-ar]at aH;have HX:=Q02 ao;have HY:=Q02 ap;clear ar ao ap aI;obtain⟨W0,D⟩:∃W,((w.alloc (.cells #[.int .i64 key,.slice o l.length cap,.slice oR n cR] 29)).alloc (.cells #[.int .i64 0,.slice none 0 0,.slice none 0 0] 127))=W:=⟨_,rfl⟩;have U:=alb0v0v2 D;have I:=Q02 U;clear U;have zz:=alz0v0v2 D;obtain⟨z0,z1,z2⟩:=alc3v0v2 D;have p:=alz0v1v2 D;obtain⟨r0,r1,r2⟩:=alc3v1v2 D;obtain⟨N,O,P⟩:=alf3v1v2 D
 have aY:=Q02 (show W0.heap[w.heap.size+1]? =some (.cells #[.int .i64 0,.slice none 0 0,.slice none 0 0] 127 (0,0))by rw[<-D];exact Q1P w _ _ _);have bc:=p;have bg:=zz;have y:=Q02 (fun W=>Q0T key W);have x:=Q02 (Q2Q o cap l W0 ((hR.kept I.out (Kaq _)).le I.out.size) an);have a0:=Q02 hR;have HG:=Q02 hG;clear hR hG;have G:=Q02 (fun h=>Qg7 (m:=⟨key,l,c⟩) h);have bn:=I.out.size
 cases hk:Q1D key with
 |false=>
  rw[hk]at y;go_enter Tryz.func142,Tryz.ntmps142;go_wp2_with (first|(go_at_call 115;refine(y.out _).mono ?_;rintro e w1 ⟨rfl,rfl⟩)|(go_at_call 175;refine x.out.mono ?_;rintro e w2 ⟨rfl,a⟩;have a:=Q02 a));refine bodyPost_ret (v:=.tuple #[Q6p 0 (.slice none 0 0) (.slice none 0 0),.bool false]) (by simp[results,Tryz.results142,go_sem,r0,r1,r2]) rfl (Q5T (G.out (.inl hk)) (Q0v I.out (Nat.le_succ _) _ _ _))
 |true=>
  rw[hk]at y;have HK:=Q02 hk;clear hk
  cases hbo:Q0b l with
  |false=>
   rw[hbo]at x;go_enter Tryz.func142,Tryz.ntmps142;go_wp2_with (first|(go_at_call 115;refine(y.out _).mono ?_;rintro e w1 ⟨rfl,rfl⟩)|(go_at_call 175;refine x.out.mono ?_;rintro e w2 ⟨rfl,a⟩;have s0:=bC a r0 p;have s1:=bC a r1 p;have s2:=bC a r2 p;have t0:=bF a N p;have t1:=bF a O p;have t2:=bF a P p;have a:=Q02 a))
   refine bodyPost_ret (v:=.tuple #[Q6p 0 (.slice none 0 0) (.slice none 0 0),.bool false]) (by simp[results,Tryz.results142,go_sem,s0,s1,s2]) rfl (Q5T (G.out (.inr (.inl hbo))) (Q0v (I.out.trans (a.out.mono I.out.size)) (Nat.le_succ _) _ _ _))
  |true=>
   rw[hbo]at x;have aw:=Q02 hbo;clear hbo
   by_cases h1:(n:Int) < 1
   ·go_enter Tryz.func142,Tryz.ntmps142
    go_wp2_with (first|(go_at_call 115;refine(y.out _).mono ?_;rintro e w1 ⟨rfl,rfl⟩)|(go_at_call 175;refine x.out.mono ?_;rintro e w2 ⟨rfl,a⟩;have s0:=bC a r0 p;have s1:=bC a r1 p;have s2:=bC a r2 p;have t0:=bF a N p;have t1:=bF a O p;have t2:=bF a P p;have y0:=bC a z0 zz;have y1:=bC a z1 zz;have y2:=bC a z2 zz;have a:=Q02 a))
    refine bodyPost_ret (v:=.tuple #[Q6p 0 (.slice none 0 0) (.slice none 0 0),.bool false]) (by simp[results,Tryz.results142,go_sem,s0,s1,s2]) rfl (Q5T (G.out (.inr (.inr (.inl (show c.length < 1 by have:=q.out;omega))))) (Q0v (I.out.trans (a.out.mono I.out.size)) (Nat.le_succ _) _ _ _))
   by_cases h3:(3:Int) < (n:Int)
   ·go_enter Tryz.func142,Tryz.ntmps142
    go_wp2_with (first|(go_at_call 115;refine(y.out _).mono ?_;rintro e w1 ⟨rfl,rfl⟩)|(go_at_call 175;refine x.out.mono ?_;rintro e w2 ⟨rfl,a⟩;have s0:=bC a r0 p;have s1:=bC a r1 p;have s2:=bC a r2 p;have t0:=bF a N p;have t1:=bF a O p;have t2:=bF a P p;have y0:=bC a z0 zz;have y1:=bC a z1 zz;have y2:=bC a z2 zz;have a:=Q02 a))
    refine bodyPost_ret (v:=.tuple #[Q6p 0 (.slice none 0 0) (.slice none 0 0),.bool false]) (by simp[results,Tryz.results142,go_sem,s0,s1,s2]) rfl (Q5T (G.out (.inr (.inr (.inr (.inl (show 3 < c.length by have:=q.out;omega)))))) (Q0v (I.out.trans (a.out.mono I.out.size)) (Nat.le_succ _) _ _ _))
   have a6:1<=n:=by omega
   have a7:n<=3:=by omega
   go_enter Tryz.func142,Tryz.ntmps142;go_wp2_with (first|(go_at_call 115;refine(y.out _).mono ?_;rintro e w1 ⟨rfl,rfl⟩)|(go_at_call 175;refine x.out.mono ?_;rintro e w2 ⟨rfl,a⟩;have s0:=bC a r0 p;have s1:=bC a r1 p;have s2:=bC a r2 p;have t0:=bF a N p;have t1:=bF a O p;have t2:=bF a P p;have y0:=bC a z0 zz;have y1:=bC a z1 zz;have y2:=bC a z2 zz;have a:=Q02 a));have bk:=a.out.size;have aV:=Q02 (I.out.trans (a.out.mono I.out.size));have aZ:=Q02 ((a.out.block _ bc).trans aY.out);clear z0 z1 z2 r0 r1 r2 N O P s0 s1 s2 t0 t1 t2 y x
   go_loopw [4,35] (fun rv iv wr=> ∃(i:Nat),i<=n/\iv=.int .i64 (i:Int)/\Hid (ownL Q1T 188 wr w2.heap.size rv ((c.map Q30).take i))/\Hid (∀j,j < i->Q1j (c.getD j [])=true)/\Hid (Below w2.heap.size w2 wr))
    (fun _ iv _=>n - (intOf iv).toNat)
   case atStart=>exact⟨0,Kcq _,rfl,by rw[List.take_zero];exact KLq _ _ _ _,fun j hj=>absurd hj (KMq _),KBq⟩
   case round=>
    rename_i rv _
    obtain⟨i,bj,rfl,C,aB,B⟩:=hrel;have bb:=B.out.size;have aQ:=bC B.out y0 (by omega);have aR:=bC B.out y1 (by omega);have bd:=bC B.out y2 (by omega);have d:=Q02 (aV.out.trans (B.out.mono (show w.heap.size<=w2.heap.size by omega)));have H:=(B.out.block _ (show w.heap.size+1 < w2.heap.size by omega)).trans aZ.out
    by_cases hlt:i < n
    ·skip
     have bf:(i:Int) < (n:Int):=by omega
     have X:i < c.length:=by rw[<-q.out];exact hlt
     obtain⟨b,off,o',c',rfl,a8,ac,ae⟩:=HG.out.at (Kaq _) i X;have aF:=bC d.out ac a8;have aM:=(ae.kept d.out (Kaq _)).le d.out.size;have aj:=Q02 (Qgg c i X);have aO:=HX.out i X;have aP:=HY.out i X;have az:=Q02 (fun h=>G.out (.inr (.inr (.inr (.inr (.inl ⟨i,X,h⟩))))));have t:=Q02 (Q3l o' c' (c.getD i []) wr aM aO aP);clear ac ae aM aO aP;obtain⟨ll,aq⟩:∃ll,c.getD i []=ll:=⟨_,rfl⟩;rw[aq]at aF aj az t;have aW:=Q02 aq;clear aq;obtain⟨m,hm⟩:∃m,ll.length=m:=⟨_,rfl⟩;rw[hm]at aF t;clear hm
     cases hok:Q1j ll with
     |false=>
      rw[hok]at t;simp only[Bool.false_eq_true,if_false]at t;have g0:=Q01 H 0;have g1:=Q01 H 1;have g2:=Q01 H 2;go_wp2_with fail;refine t.out.mono ?_;rintro e A ⟨rfl,z⟩;have aN:=z.size;have ad:=(z.block _ (show w.heap.size+1 < wr.heap.size by omega)).trans H;obtain⟨J,E⟩:∃W,A.alloc (.cells (ptA ptZ) 188)=W:=⟨_,rfl⟩
      have s:J.heap[w.heap.size+1]? =some (.cells #[.int .i64 0,.slice none 0 0,.slice none 0 0] 127 (0,0)):=by rw[<-E];exact(Below.heap_alloc _ _ _ (by omega)).trans ad
      have aS:Hid (Below w.heap.size w J):=by rw[<-E];exact(d.out.trans (z.mono d.out.size)).alloc (by have:=d.out.size;omega) _
      have q0:J.cell? ⟨w.heap.size+1,0,none⟩=some (.int .i64 0):=Q00 s 0 _ rfl;have a3:=Q01 s 0;have q1:J.cell? ⟨w.heap.size+1,1,none⟩=some (.slice none 0 0):=Q00 s 1 _ rfl;have a4:=Q01 s 1;have q2:J.cell? ⟨w.heap.size+1,2,none⟩=some (.slice none 0 0):=Q00 s 2 _ rfl;have a5:=Q01 s 2;clear z ad s;go_wp2_with (first|(refine Q0M rfl (.tmp 7) (.tmp 42) rfl A.heap.size ptZ ptZ rfl rfl (World.alloc_heap_new A _) ?_;rw[World.setRow_alloc_new,E]))
      refine bodyPost_ret (v:=.tuple #[Q6p 0 (.slice none 0 0) (.slice none 0 0),.bool false]) (by simp[results,Tryz.results142,go_sem,q0,q1,q2]) rfl (Q5T (az.out hok) (Q0v aS.out (Nat.le_succ _) _ _ _))
     |true=>
      have aC:=Q02 hok;rw[hok]at t;simp only[if_true]at t;clear hok;obtain⟨f,hf⟩:∃f,Q30 ll=f:=⟨_,rfl⟩;rw[hf]at t aj;clear hf;go_wp2_with fail;refine t.out.mono ?_;rintro e A ⟨rfl,z⟩;have aN:=z.size;obtain⟨J,E⟩:∃W,A.alloc (.cells (ptA f) 188)=W:=⟨_,rfl⟩
      have F:Below wr.heap.size wr J:=by rw[<-E];exact z.alloc aN _
      have a2:Hid (J.heap[A.heap.size]? =some (.cells (ptA f) 188 (0,0))):=by rw[<-E];exact World.alloc_heap_new A _
      have aD:=Q02 (Q03 C.out F);have aT:=Q02 (B.out.trans (F.mono bb));have bl:=F.size;obtain⟨oq,cq,eq,_⟩:=ownL.open (L:=Q1T) C.out;have ay:=Q02 (show((c.map Q30).take i).length=i by rw[List.length_take,List.length_map];omega);rw[ay.out]at eq;subst eq;clear z F;obtain⟨W3,al⟩:∃W,J.alloc (.cells (ptA f) 188)=W:=⟨_,rfl⟩;have aa:=alb0v0v1 al;have a1:=Q02 (show RdL Q1T W3.heap.size W3 (some ⟨J.heap.size,0,none⟩) [f]by rw[<-al];exact QhC J f);have ab:=Q02 (Q03 aD.out aa);have M:=Q02 (aT.out.trans (aa.mono (by omega)));have bm:=aa.size;clear aa
      go_wp2_with (first|(refine Q0M rfl (.tmp 7) (.tmp 42) rfl A.heap.size f ptZ rfl rfl (World.alloc_heap_new A _) ?_;rw[World.setRow_alloc_new,E])|(refine Q1L rfl (.tmp 7) rfl A.heap.size rfl f a2.out ?_)|(refine Q22 rfl (.tmp 48) rfl f rfl ?_;rw[al])|(at_builtin;refine Q07 Qiv rfl (.tmp 47) (.tmp 49) rfl w2.heap.size (.slice oq i cq) ((c.map Q30).take i) rfl ab.out (some ⟨J.heap.size,0,none⟩) 1 W3.heap.size [f] 1 rfl rfl (by simp) a1.out (by rw[ay.out];simp;omega) (by omega) ?_));intro v8 w8 aK aJ _
      have aU:=Q02 (M.out.grown aJ (by omega) (fun k h=>(ab.out.lt k h).1));have aX:=Q02 aK;clear aK aJ;go_wp2;go_roundw
      case rel=>exact⟨i+1,by omega,by go_num,by rw[aj.out];exact aX.out,(fun j hj=>by rcases Nat.lt_succ_iff_lt_or_eq.1 hj with h'|h';(· exact aB.out j h');(· rw[h',aW.out];exact aC.out)),aU.out⟩
      case measure=>simp[intOf];omega
    ·skip
     have e:i=n:=by omega
     subst e;have av:=Q02 (show(c.map Q30).take i=c.map Q30 by rw[q.out,show c.length=(c.map Q30).length by simp,List.take_length]);rw[av.out]at C;obtain⟨g,cq,eq⟩:=Qe8 C.out (by rw[List.length_map,<-q.out];omega);rw[List.length_map,<-q.out]at eq;subst eq;have ai:=Q02 (show wr.rangeAt g 0 (ptL (Q30 (c.getD 0 [])))from Qer C.out (by rw[<-q.out];omega));have a9:g < wr.heap.size:=(C.out.lt g rfl).2
     have ak:=Q02 (fun h6=>Qa2 (m:=⟨key,l,c⟩) HK.out aw.out (by show 1<=c.length;rw[<-q.out];exact a6) (by show c.length<=3;rw[<-q.out];exact a7) (fun j hj=>aB.out j (by rw[q.out];exact hj)) h6);have ah:=Q02 (fun h6=>G.out (.inr (.inr (.inr (.inr (.inr h6))))));have aA:=Q02 (Q1z key o cap l wr.drew ((a0.out.kept d.out (Kaq _)).le d.out.size) an HK.out aw.out);have ax:=Q02 (fun W=>QiR (Q30 (c.getD 0 [])) (Q2y key l) W);obtain⟨f0,am⟩:∃f,Q30 (c.getD 0 [])=f:=⟨_,rfl⟩;obtain⟨f1,V⟩:∃f,Q2y key l=f:=⟨_,rfl⟩;dsimp only at ak ah;rw[am,V]at ak ah ax
     rw[am]at ai;rw[V]at aA;clear am V
     have bh:(0:Int) < (i:Int):=by omega
     have be:¬(i=0):=by omega
     have bi:=QhD;have aE:=Q02 H;clear H h1 h3;have ag:=Q02 (fun A (hb:Below wr.heap.size wr A)=>Qif ((hb.block _ (show w.heap.size+1 < wr.heap.size by omega)).trans aE.out))
     have Z:w.heap.size < wr.heap.size:=by omega
     cases hr:QaR f0 f1
     all_goals
      go_wp2;refine wp_region_held_drew (S:=(fun w'=>w'.rangeAt g 0 (ptL f0)/\w'.cell? ⟨w.heap.size,0,none⟩=some (.int .i64 key)/\w'.cell? ⟨w.heap.size,1,none⟩=some (.slice o l.length cap))) (by kernel_rfl) ⟨ai.out,aQ,aR⟩ (fun hHeld=>?_);refine wpAnyH_take (i:=0) (oi:=_) (v:=.slice (some ⟨g,0,none⟩) i cq) rfl (by kernel_rfl) (by kernel_rfl) (by kernel_rfl) (fun _ _ _ h=>h) (Or.inl ⟨by rfl,fun w r=>by obtain⟨_,R,T⟩:=r;go_simp⟩) hHeld ?_
      try simp only[Act.put,List.setIfInBounds_toArray,List.set_cons_zero,List.set_cons_succ]
      refine wpAnyH_take (i:=1) (oi:=_) (v:=.pointer (some ⟨g,0,none⟩)) rfl (by kernel_rfl) (by kernel_rfl) (by kernel_rfl) (fun _ _ _ h=>h) (Or.inl ⟨by rfl,fun w r=>by obtain⟨_,R,T⟩:=r;go_simp⟩) hHeld ?_
      try simp only[Act.put,List.setIfInBounds_toArray,List.set_cons_zero,List.set_cons_succ]
      refine wpAnyH_take (i:=2) (oi:=_) (v:=ptv f0) rfl (by kernel_rfl) (by kernel_rfl) (by kernel_rfl) (fun _ _ _ h=>h) (yieldsIf_load_mid (by rfl) _ _ rfl g 0 rfl (ptL f0) _ (fun w h=>h.1) ptU rfl ptI) hHeld ?_
      try simp only[Act.put,List.setIfInBounds_toArray,List.set_cons_zero,List.set_cons_succ]
      refine wpAnyH_take (i:=3) (oi:=_) (v:=.pointer (some ⟨w.heap.size,0,none⟩)) rfl (by kernel_rfl) (by kernel_rfl) (by kernel_rfl) (fun _ _ _ h=>h) (Or.inl ⟨by rfl,fun w r=>by obtain⟨_,R,T⟩:=r;go_simp⟩) hHeld ?_
      try simp only[Act.put,List.setIfInBounds_toArray,List.set_cons_zero,List.set_cons_succ]
      refine wpAnyH_take (i:=4) (oi:=_) (v:=.int .i64 key) rfl (by kernel_rfl) (by kernel_rfl) (by kernel_rfl) (fun _ _ _ h=>h) (Or.inl ⟨by rfl,fun w r=>by obtain⟨_,R,T⟩:=r;go_simp⟩) hHeld ?_
      try simp only[Act.put,List.setIfInBounds_toArray,List.set_cons_zero,List.set_cons_succ]
      refine wpAnyH_take (i:=5) (oi:=_) (v:=.pointer (some ⟨w.heap.size,1,none⟩)) rfl (by kernel_rfl) (by kernel_rfl) (by kernel_rfl) (fun _ _ _ h=>h) (Or.inl ⟨by rfl,fun w r=>by obtain⟨_,R,T⟩:=r;go_simp⟩) hHeld ?_
      try simp only[Act.put,List.setIfInBounds_toArray,List.set_cons_zero,List.set_cons_succ]
      refine wpAnyH_take (i:=6) (oi:=_) (v:=.slice o l.length cap) rfl (by kernel_rfl) (by kernel_rfl) (by kernel_rfl) (fun _ _ _ h=>h) (Or.inl ⟨by rfl,fun w r=>by obtain⟨_,R,T⟩:=r;go_simp⟩) hHeld ?_
      try simp only[Act.put,List.setIfInBounds_toArray,List.set_cons_zero,List.set_cons_succ]
      refine wpAnyH_ready (rs:=[7]) (by kernel_rfl) (by simp) ?_;refine AllReadyH.cons rfl (fun K hK=>?_) AllReadyH.nil
      go_simp
      go_at_call 118;refine aA.out.mono ?_;rintro e A ⟨rfl,u⟩;replace u:Below wr.heap.size wr A:=(KHq KBq).trans u;have k0:=bC u aQ Z;have k1:=bC u aR Z;have k2:=bC u bd Z;have au:=Q1q ai.out u a9;obtain⟨q0,q1,q2,a3,a4,a5⟩:=ag.out A u;have M:=Q02 u;clear u;go_wp2_with fail;refine hK.out _ _ ⟨au,k0,k1⟩ (fun hHeld=>?_);clear hK K
      try simp only[Act.put,List.setIfInBounds_toArray,List.set_cons_zero,List.set_cons_succ]
      refine wpAnyH_ready (rs:=[8]) (by kernel_rfl) (by simp) ?_;refine AllReadyH.cons rfl (fun K hK=>?_) AllReadyH.nil;have aG:=ax.out A;rw[hr]at aG
      go_simp
      refine hK.out _ _ ⟨au,k0,k1⟩ (fun hHeld=>?_);clear hK K hHeld aG
      try simp only[Act.put,List.setIfInBounds_toArray,List.set_cons_zero,List.set_cons_succ]
      refine wpAnyH_done (by kernel_rfl) ?_ _;clear au;go_wp2
     ·refine bodyPost_ret (v:=.tuple #[Q6p 0 (.slice none 0 0) (.slice none 0 0),.bool false]) (by simp[results,Tryz.results142,go_sem,q0,q1,q2]) rfl (Q5T (ah.out hr) (Q0v (d.out.trans (M.out.mono d.out.size)) (Nat.le_succ _) _ _ _))
     ·refine bodyPost_ret (v:=.tuple #[Q6p key (.slice o l.length cap) (.slice (some ⟨g,0,none⟩) i cq),.bool true]) (by simp[results,Tryz.results142,go_sem,q0,q1,q2]) rfl ?_
      have af:=ak.out hr
      have Y:w.heap.size+1 < w2.heap.size:=by omega
      have aL:=Q0j (Q0j (Q0j (Q03 C.out M.out) Y 0 (.int .i64 key)) Y 1 (.slice o l.length cap)) Y 2 (.slice (some ⟨g,0,none⟩) i cq);have ba:=q.out;subst ba;exact⟨_,by rw[af],fun _=>⟨some ⟨g,0,none⟩,cq,rfl,Q04 aL (by omega)⟩,fun h=>absurd (h.symm.trans af) (by simp),Q0v (d.out.trans (M.out.mono d.out.size)) (Nat.le_succ _) _ _ _⟩
theorem QcM {l:List Int} {j:Nat} (b:j < l.length) (h:idB (l.getD j 0)=false):Q0P l=false:=by
 unfold Q0P
 by_cases h2:l.length=2
 ·have a:¬(l.length=0):=by omega
  match j,b,h with
  |0,_,h=>simp only[h];simp[a]
  |1,_,h=>simp only[h];simp[a]
  |j+2,b,_=>omega
 ·have a:¬(l.length=0):=by omega
  simp[h2,a]
theorem Qam {aa bb:List (List Int)}:∀k,Q0R aa bb k=0->∀i,i < k->aa.getD i []=bb.getD i []
 |0,_=>fun i hi=>absurd hi (KMq _)
 |k+1,h=>fun i hi=>by
  have c:=(Q4z aa bb k).1
  by_cases e:aa.getD k []=bb.getD k []
  ·have b:=Q38 (aa:=aa) (bb:=bb) (k:=k) rfl rfl e
   rcases Nat.lt_succ_iff_lt_or_eq.1 hi with a|a
   ·exact Qam k (by omega) i a
   ·rw[a];exact e
  ·have b:=Q4e (aa:=aa) (bb:=bb) (k:=k) rfl rfl e
   omega
theorem Q3j {aa bb:List (List Int)}:∀k,(∀i,i < k->aa.getD i []=bb.getD i [])->Q0R aa bb k=0
 |0,_=>rfl
 |k+1,h=>by
  rw[<-Q38 (aa:=aa) (bb:=bb) (k:=k) rfl rfl (h k (by omega))];exact Q3j k (fun i hi=>h i (by omega))
theorem Q6P {ll:List (List Int)} (h:Q1j ll=true):ll.length=8/\∀i,i < 8->Q0P (ll.getD i [])=true:=by
 unfold Q1j at h;simp only[Bool.and_eq_true,decide_eq_true_eq,List.all_eq_true,List.mem_range]at h;exact h
theorem Qgw {key:Int} {l:List Bk} {ll:List (List Int)} (g:Q0b l=true) (h:Q1j ll=true):Q10 ll (Q2Z key l)=0↔QaR (Q30 ll) (Q2y key l)=true:=by
 obtain⟨f,j⟩:=Q6P h
 have hm:Q10 ll (Q2Z key l)=Q0R ll (Q2Z key l) 8:=by rw[Q10,if_pos ⟨f,Q1G key l⟩]
 rw[hm]
 have d:∀i,i < 8->(Q2Z key l).getD i []=Q14 key i l:=fun i hi=>by unfold Q2Z;rw[Q2f _ _ _ hi]
 constructor
 ·intro a
  unfold QaR;rw[List.all_eq_true];intro i hi
  have b:i < 8:=by simpa using hi
  have c:=Qam 8 a i b;unfold Q30 Q2y;rw[c,d i b];exact beq_self_eq_true _
 ·intro a
  unfold QaR at a;rw[List.all_eq_true]at a;refine Q3j 8 (fun i hi=>?_);have c:=eq_of_beq (a i (by simpa using hi));unfold Q30 Q2y at c;rw[d i hi,<-Q4p (j i hi),c,Q4p (Q9b key i g)]
theorem Qf3 {m:Pm} (b:Q1D m.key=true) (h2:Q0b m.l=true) (c:1<=m.ring.length) (d:m.ring.length<=3) (a:∀i,i < m.ring.length->Q1j (m.ring.getD i [])=true) (f:Q10 (m.ring.getD 0 []) (Q2Z m.key m.l)=0):Q1M m=true:=
 Qa2 b h2 c d a ((Qgw h2 (a 0 (by omega))).1 f)
def Qa8 (m:Pm) (k i g:Int):Pm:=if(Q1M m && Q0F k i g)=true then(match doL m.l k i g with|none=>m|some l=>⟨m.key,l,(Q2Z m.key l::m.ring).take 3⟩)else pm0
def QhJ (m:Pm) (k i g:Int):Bool:=(Q1M m && Q0F k i g) && (doL m.l k i g).isSome
theorem Q1r {m:Pm} (h:Q1M m=true):Q1D m.key=true/\Q0b m.l=true/\1<=m.ring.length/\m.ring.length<=3/\∀i,i < m.ring.length->Q1j (m.ring.getD i [])=true:=by
 unfold Q1M at h;simp only[Bool.and_eq_true,decide_eq_true_eq,List.all_eq_true,List.mem_range]at h;obtain⟨⟨⟨⟨⟨a,h2⟩,b⟩,c⟩,d⟩,f⟩:=h;exact⟨a,h2,b,c,d⟩
theorem Q9D {l:List Int} (h:Q0P l=true):l.length<=2:=by
 unfold Q0P at h;simp only[Bool.or_eq_true,Bool.and_eq_true,decide_eq_true_eq]at h;omega
theorem QfV {ll:List (List Int)} (h:Q1j ll=true):Q41 (Q30 ll)=ll:=by
 obtain⟨b,c⟩:=Q6P h;apply List.ext_getElem
 ·rw[Q3W,b]
 ·intro i a h2
  have hi:i < 8:=by rw[Q3W]at a;exact a
  have e:ll.getD i []=ll[i]:=by simp[h2]
  have:=Q4p (c i hi);rw[e]at this;simp[Q41,Q30,h2,this]
theorem Qay {R:List (List (List Int))} (h:∀i,i < R.length->Q1j (R.getD i [])=true):(R.map Q30).map Q41=R:=by
 apply List.ext_getElem
 ·simp
 ·intro i a h2
  have:=QfV (h i h2)
  have e:R.getD i []=R[i]:=by simp[h2]
  rw[e]at this;simp[this]
theorem QdL {key:Int} {l:List Bk} {R:List (List (List Int))} (a:Q0b l=true) (h:∀i,i < R.length->Q1j (R.getD i [])=true):(Q2y key l::(R.map Q30).take 2).map Q41=(Q2Z key l::R).take 3:=by
 rw[List.map_cons,Q92 key a,List.map_take,Qay h]
 rfl
theorem Q7q {α:Type} (l:List α) (n i:Nat) (d:α) (h:i < n):(l.take n).getD i d=l.getD i d:=by
 rw[KFq,List.getElem?_take,if_pos h,<-KFq]
theorem Qhg {w:World} {base C:Nat} {k h:Option Addr} {q f d:Nat} {a c:List Hd} {key:Int} {l:List Bk} {R:List (List (List Int))} (u:C<=w.heap.size) (x:ownL Q0E 51 w base (.slice k q f) (((h,8,d)::a).take 3)) (t:ownL Q0E 47 w base (.slice h 8 d) c) (z:Tab (fun b=>Q14 key b l) 8 w base c) (v:a.length=R.length) (y:∀i,i < R.length->RcT 0 C w (hv a i) (R.getD i [])):RcR 0 w.heap.size w (.slice k q f) ((Q2Z key l::R).take 3):=by
 refine⟨((h,8,d)::a).take 3,by simp[v],(InRow.ri (InRow.of x)).mono (Kcq _) (Kaq _),fun i hi=>?_⟩
 have g:i < 3:=by simp at hi;omega
 have r:hv (((h,8,d)::a).take 3) i=hv ((h,8,d)::a) i:=by unfold hv;rw[Q7q _ _ _ _ g]
 have s:((Q2Z key l::R).take 3).getD i []=(Q2Z key l::R).getD i []:=Q7q _ _ _ _ g;rw[r,s]
 cases i with
 |zero=>
  have m:=Qb8 z;refine⟨c,m.len,(InRow.ri (InRow.of t)).mono (Kcq _) (Kaq _),fun j p=>⟨(InRow.ri (InRow.of (m.row j p))).mono (Kcq _) (Kaq _),InRow.cap (InRow.of (m.row j p))⟩⟩
 |succ i=>
  have n:i < R.length:=by simp at hi;omega
  exact RcT.mon.go (y i n) (Kaq _) u
theorem Qhj {m:Pm} (k i g:Int) (h:Q2q m):Q2q (Qa8 m k i g):=by
 unfold Qa8
 split
 ·next c=>
  split
  ·exact h
  ·next l v=>
   simp only[Bool.and_eq_true]at c;obtain⟨z,h2,A,B,u⟩:=Q1r c.1;have d:=Q8W h2 c.2 v;have s:=Q47 d
   have a:∀q,q < ((Q2Z m.key l::m.ring).take 3).length->(((Q2Z m.key l::m.ring).take 3).getD q []).length=8/\∀j,((((Q2Z m.key l::m.ring).take 3).getD q []).getD j []).length<=2:=fun q b=>by
    have n:q < 3:=by simp at b;omega
    have t:((Q2Z m.key l::m.ring).take 3).getD q []=(Q2Z m.key l::m.ring).getD q []:=Q7q _ _ _ _ n;rw[t]
    cases q with
    |zero=>exact⟨Q1G _ _,fun j=>Q71 _ _ j⟩
    |succ q=>
     have f:q < m.ring.length:=by simp at b;omega
     obtain⟨x,y⟩:=Q6P (u q f);refine⟨x,fun j=>?_⟩
     by_cases r:j < 8
     ·exact Q9D (y j r)
     ·show((m.ring.getD q []).getD j []).length<=2
      rw[KFq,List.getElem?_eq_none (by omega)];simp
   have w:((Q2Z m.key l::m.ring).take 3).length<=3:=by simp;omega
   have p:∀q,Qbu ((Q2Z m.key l::m.ring).take 3) q<=16:=fun q=>by
    by_cases b:q < ((Q2Z m.key l::m.ring).take 3).length
    ·unfold Qbu szT
     have:=Q55 (Qih (((Q2Z m.key l::m.ring).take 3).getD q [])) 2 (fun j=>(a q b).2 j) (((Q2Z m.key l::m.ring).take 3).getD q []).length;rw[(a q b).1]at this ⊢;omega
    ·unfold Qbu;rw[KFq,List.getElem?_eq_none (by omega)];exact Kcq _
   refine⟨by show l.length<=_;omega,by show((Q2Z m.key l::m.ring).take 3).length<=_;omega, ?_,fun q b=>?_,fun q b j r=>?_⟩
   ·have:=Q55 (Qbu ((Q2Z m.key l::m.ring).take 3)) 16 p ((Q2Z m.key l::m.ring).take 3).length
    show QdI (Qbu ((Q2Z m.key l::m.ring).take 3)) ((Q2Z m.key l::m.ring).take 3).length<=_
    have hm:16 * ((Q2Z m.key l::m.ring).take 3).length<=48:=by omega
    omega
   ·have:=(a q b).1
    show(((Q2Z m.key l::m.ring).take 3).getD q []).length<=_
    omega
   ·have:=(a q b).2 j
    show((((Q2Z m.key l::m.ring).take 3).getD q []).getD j []).length<=_
    omega
 ·exact⟨by simp[pm0],by simp[pm0],by simp[pm0,szR,QdI],fun i hi=>absurd hi (KMq _),fun i hi=>absurd hi (KMq _)⟩
theorem Q9E (v:Value) (m:Pm) (k i g:Int) (w:World) (hR:RcPm 0 w.heap.size w v m) (hf:Q2q m):
  Calls Tryz.prog 123 #[v,cmd k i g] w fun e w'=> ∃v',e=.returned (.tuple #[v',.bool (QhJ m k i g)])/\InPm w.heap.size w'.heap.size w' v' (Qa8 m k i g)/\Below w.heap.size w w':=by
 obtain⟨vb,vr,rfl,aE,av,rr,aw⟩:=hR;obtain⟨o,c,rfl,r⟩:=aE.open
 have ah:o=none->c=0:=fun e=>av _ _ (by rw[e])
 obtain⟨oR,cR,rfl⟩:=RiR.len (RcR.ri rr)
 have aL:oR=none->cR=0:=fun e=>aw _ _ (by rw[e])
 clear aE av aw;obtain⟨key,l,x⟩:=m;dsimp only at *;have H:=Q02 (show Qa8 ⟨key,l,x⟩ k i g=if(Q1M ⟨key,l,x⟩ && Q0F k i g)=true then(match doL l k i g with|none=>⟨key,l,x⟩|some l'=>⟨key,l',(Q2Z key l'::x).take 3⟩)else pm0 from rfl);have I:=Q02 (show QhJ ⟨key,l,x⟩ k i g=((Q1M ⟨key,l,x⟩ && Q0F k i g) && (doL l k i g).isSome)from rfl);have ao:=Q02 (fun h:Q1M ⟨key,l,x⟩=true=>Q1r h);have ap:=Q02 hf;obtain⟨ax,aK,ay,az,aA⟩:=hf;dsimp only at ax aK ay az aA;clear ay az aA
 obtain⟨W0,O⟩:∃W,(((w.alloc (.cells #[.int .i64 key,.slice o l.length c,.slice oR x.length cR] 29)).alloc (.cells #[.int .i64 k,.int .i64 i,.int .i64 g] 77)).alloc (.cells #[.int .i64 0,.slice none 0 0,.slice none 0 0] 29))=W:=⟨_,rfl⟩;have ad:=alb0v0v3 O;have p:=Q02 ad;clear ad;have j:=alz0v0v3 O;obtain⟨E,F,G⟩:=alc3v0v3 O;have f:=alz0v1v3 O;obtain⟨u0,u1,u2⟩:=alc3v1v3 O;have d:=alz0v2v3 O;obtain⟨B,C,D⟩:=alc3v2v3 O;obtain⟨s,t,u⟩:=alf3v2v3 O;have aV:=d
 have ai:=Q02 (Q7x key o c l oR cR x x.length rfl W0 ((r.kept p.out (Kaq _)).le p.out.size) (RiR.mon.go (RiR.stp.go (RcR.ri rr) (Stp.of (lo:=0) (hi:=0) p.out) (.inl (Kcq _))) (Kaq _) p.out.size) ap.out);have P:=Q02 (fun W=>Q4y k i g W);have aq:=Q02 r;clear r rr;have aU:=p.out.size
 cases hp:Q1M ⟨key,l,x⟩with
 |false=>
  rw[hp]at H I;go_enter Tryz.func123,Tryz.ntmps123;go_wp2_with fail;refine ai.out.mono ?_;rintro e v1 ⟨vP,rfl,_,h2,a⟩;have e2:=h2 hp;subst e2;rw[hp];clear h2;replace E:=bC a E j;replace F:=bC a F j;replace G:=bC a G j;replace j:=Kbq j a.size;replace u0:=bC a u0 f;replace u1:=bC a u1 f;replace u2:=bC a u2 f;replace f:=Kbq f a.size;replace B:=bC a B d;replace C:=bC a C d;replace D:=bC a D d;replace s:=bF a s d;replace t:=bF a t d;replace u:=bF a u d;replace d:=Kbq d a.size;replace p:=Q02 (p.out.trans (a.mono p.out.size))
  clear a;have A:Below v1.heap.size v1 (v1.alloc (.cells #[.int .i64 0,.slice none 0 0,.slice none 0 0] 127)):=KBq.alloc (Kaq _) _;replace E:=bC A E j;replace F:=bC A F j;replace G:=bC A G j;replace j:=Kbq j A.size;replace u0:=bC A u0 f;replace u1:=bC A u1 f;replace u2:=bC A u2 f;replace f:=Kbq f A.size;replace B:=bC A B d;replace C:=bC A C d;replace D:=bC A D d;replace s:=bF A s d;replace t:=bF A t d;replace u:=bF A u d;replace d:=Kbq d A.size;replace p:=Q02 (p.out.trans (A.mono p.out.size));clear A
  generalize Q0F k i g=ck at *;go_wp2_with fail;refine(P.out _).mono ?_;rintro e v2 ⟨rfl,a⟩;replace E:=bC a E j;replace F:=bC a F j;replace G:=bC a G j;replace j:=Kbq j a.size;replace u0:=bC a u0 f;replace u1:=bC a u1 f;replace u2:=bC a u2 f;replace f:=Kbq f a.size;replace B:=bC a B d;replace C:=bC a C d;replace D:=bC a D d;replace s:=bF a s d;replace t:=bF a t d;replace u:=bF a u d;replace d:=Kbq d a.size;replace p:=Q02 (p.out.trans (a.mono p.out.size));clear a;generalize (if ck=true then Q9j k i g else .nilIface)=dv;go_wp2
  refine bodyPost_ret (v:=.tuple #[plv 0 (.slice none 0 0) (.slice none 0 0),.bool false]) (by simp[results,Tryz.results123,go_sem,B,C,D]) rfl ⟨plv 0 (.slice none 0 0) (.slice none 0 0),by rw[I.out];simp, ?_,Q0v p.out (by omega) _ _ _⟩;rw[H.out,if_neg (by simp)];exact Q9T _ _ _ (Q0v p.out (show w.heap.size<=w.heap.size+1+1 by omega) _ _ _).size
 |true=>
  obtain⟨hk,ag,aI,aJ,ak⟩:=ao.out hp;dsimp only at hk ag aI aJ ak;have HK:=Q02 hk;have aG:=Q02 ag;have ar:=Q02 ak;have aP:=Q47 ag;clear hk ag ak ao;rw[hp]at H I;have HP:=Q02 hp;clear hp
  cases hc:Q0F k i g with
  |false=>
   rw[hc]at P H I;simp only[Bool.false_eq_true,if_false]at P;go_enter Tryz.func123,Tryz.ntmps123;go_wp2_with fail;refine ai.out.mono ?_;rintro e v1 ⟨vP,rfl,h1,_,a⟩;obtain⟨o2,c2,e2,N⟩:=h1 HP.out;dsimp only at e2 N;subst e2;rw[HP.out];have y:=Q02 N;have aM:=a.size;have aj:=Q02 (Q5G N);clear h1 N;have R:=Q02 (show(x.map Q30).length=x.length by simp);obtain⟨n,hn⟩:∃n,x.length=n:=⟨_,rfl⟩;rw[hn]at y R ⊢;have HN:=Q02 hn;clear hn;replace E:=bC a E j;replace F:=bC a F j;replace G:=bC a G j;replace j:=Kbq j a.size;replace u0:=bC a u0 f
   replace u1:=bC a u1 f;replace u2:=bC a u2 f;replace f:=Kbq f a.size;replace B:=bC a B d;replace C:=bC a C d;replace D:=bC a D d;replace s:=bF a s d;replace t:=bF a t d;replace u:=bF a u d;replace d:=Kbq d a.size;replace p:=Q02 (p.out.trans (a.mono p.out.size));clear a;obtain⟨W1,V⟩:∃W,(v1.alloc (.cells #[.int .i64 key,.slice o l.length c,.slice o2 n c2] 127))=W:=⟨_,rfl⟩;have b:=alb0v0v1 V;replace E:=bC b E j;replace F:=bC b F j;replace G:=bC b G j;replace j:=Kbq j b.size;replace u0:=bC b u0 f
   replace u1:=bC b u1 f;replace u2:=bC b u2 f;replace f:=Kbq f b.size;replace B:=bC b B d;replace C:=bC b C d;replace D:=bC b D d;replace s:=bF b s d;replace t:=bF b t d;replace u:=bF b u d;replace d:=Kbq d b.size;replace y:=Q02 (Q03 y.out b);replace p:=Q02 (p.out.trans (b.mono p.out.size));clear b;have z:=alz0v0v1 V;obtain⟨X,Y,Z⟩:=alc3v0v1 V;have aD:=z;go_wp2_with fail;refine(P.out W1).mono ?_;rintro e v2 ⟨rfl,a⟩;have aN:=a.size;replace E:=bC a E j;replace F:=bC a F j
   replace G:=bC a G j;replace j:=Kbq j a.size;replace u0:=bC a u0 f;replace u1:=bC a u1 f;replace u2:=bC a u2 f;replace f:=Kbq f a.size;replace B:=bC a B d;replace C:=bC a C d;replace D:=bC a D d;replace s:=bF a s d;replace t:=bF a t d;replace u:=bF a u d;replace d:=Kbq d a.size;replace X:=bC a X z;replace Y:=bC a Y z;replace Z:=bC a Z z;replace z:=Kbq z a.size;replace y:=Q02 (Q03 y.out a);replace p:=Q02 (p.out.trans (a.mono p.out.size));clear a;go_wp2
   refine bodyPost_ret (v:=.tuple #[plv 0 (.slice none 0 0) (.slice none 0 0),.bool false]) (by simp[results,Tryz.results123,go_sem,B,C,D]) rfl ⟨plv 0 (.slice none 0 0) (.slice none 0 0),by rw[I.out];simp, ?_,Q0v p.out (by omega) _ _ _⟩;rw[H.out,if_neg (by simp)];exact Q9T _ _ _ (Q0v p.out (show w.heap.size<=w.heap.size+1+1 by omega) _ _ _).size
  |true=>
   have am:=Q02 (fun W h1=>Q3e o c l k i g W h1 ah (by omega) hc);have an:=Q02 (fun l' h=>Q8W aG.out hc h (m:=l'));rw[hc]at P H I;simp only[if_true]at P;clear hc;generalize Q9j k i g=dv at *;go_enter Tryz.func123,Tryz.ntmps123;go_wp2_with fail;refine ai.out.mono ?_;rintro e v1 ⟨vP,rfl,h1,_,a⟩;obtain⟨o2,c2,e2,N⟩:=h1 HP.out;dsimp only at e2 N;subst e2;rw[HP.out];have y:=Q02 N;have aM:=a.size;have aj:=Q02 (Q5G N);clear h1 N;have R:=Q02 (show(x.map Q30).length=x.length by simp);obtain⟨n,hn⟩:∃n,x.length=n:=⟨_,rfl⟩;rw[hn]at y R ⊢;have HN:=Q02 hn
   clear hn;replace E:=bC a E j;replace F:=bC a F j;replace G:=bC a G j;replace j:=Kbq j a.size;replace u0:=bC a u0 f;replace u1:=bC a u1 f;replace u2:=bC a u2 f;replace f:=Kbq f a.size;replace B:=bC a B d;replace C:=bC a C d;replace D:=bC a D d;replace s:=bF a s d;replace t:=bF a t d;replace u:=bF a u d;replace d:=Kbq d a.size;replace p:=Q02 (p.out.trans (a.mono p.out.size));clear a;obtain⟨W1,V⟩:∃W,(v1.alloc (.cells #[.int .i64 key,.slice o l.length c,.slice o2 n c2] 127))=W:=⟨_,rfl⟩;have b:=alb0v0v1 V
   replace E:=bC b E j;replace F:=bC b F j;replace G:=bC b G j;replace j:=Kbq j b.size;replace u0:=bC b u0 f;replace u1:=bC b u1 f;replace u2:=bC b u2 f;replace f:=Kbq f b.size;replace B:=bC b B d;replace C:=bC b C d;replace D:=bC b D d;replace s:=bF b s d;replace t:=bF b t d;replace u:=bF b u d;replace d:=Kbq d b.size;replace y:=Q02 (Q03 y.out b);replace p:=Q02 (p.out.trans (b.mono p.out.size));clear b;have z:=alz0v0v1 V;obtain⟨X,Y,Z⟩:=alc3v0v1 V;have aD:=z
   go_wp2_with fail;refine(P.out W1).mono ?_;rintro e v2 ⟨rfl,a⟩;have aN:=a.size;replace E:=bC a E j;replace F:=bC a F j;replace G:=bC a G j;replace j:=Kbq j a.size;replace u0:=bC a u0 f;replace u1:=bC a u1 f;replace u2:=bC a u2 f;replace f:=Kbq f a.size;replace B:=bC a B d;replace C:=bC a C d;replace D:=bC a D d;replace s:=bF a s d;replace t:=bF a t d;replace u:=bF a u d;replace d:=Kbq d a.size;replace X:=bC a X z;replace Y:=bC a Y z;replace Z:=bC a Z z;replace z:=Kbq z a.size;replace y:=Q02 (Q03 y.out a)
   replace p:=Q02 (p.out.trans (a.mono p.out.size));clear a;have aa:=Q02 (am.out v2 ((aq.out.kept p.out (Kaq _)).le p.out.size))
   cases hdo:doL l k i g with
   |none=>
    rw[hdo]at aa H I;simp only[Option.isSome_none]at aa;clear hdo;go_wp2_with fail;refine(aa.out).mono ?_;rintro e v3 ⟨v5,rfl,_,a⟩;have aO:=a.size
    skip
    replace E:=bC a E j;replace F:=bC a F j;replace G:=bC a G j;replace j:=Kbq j a.size;replace u0:=bC a u0 f;replace u1:=bC a u1 f;replace u2:=bC a u2 f;replace f:=Kbq f a.size;replace B:=bC a B d;replace C:=bC a C d;replace D:=bC a D d;replace s:=bF a s d;replace t:=bF a t d;replace u:=bF a u d;replace d:=Kbq d a.size;replace X:=bC a X z;replace Y:=bC a Y z;replace Z:=bC a Z z;replace z:=Kbq z a.size;replace y:=Q02 (Q03 y.out a);replace p:=Q02 (p.out.trans (a.mono p.out.size));clear a
    have U:=Q02 (Q5n key o c l o2 c2 (x.map Q30) v3 ((aq.out.kept p.out (Kaq _)).le p.out.size) ah ax (ownL.rds (L:=Q1T) y.out) (by rw[R.out];have:=HN.out;omega));rw[Qay ar.out,R.out]at U;go_wp2_with fail;refine(U.out).mono ?_;rintro e v4 ⟨v9,rfl,ae,a⟩;have ab:=Q02 ae;have aR:=a.size;clear ae;obtain⟨o9,c9,M,J,e9⟩:∃(o9:Option Addr) (c9:Nat) (M:Option Addr) (J:Nat),v9=plv key (.slice o9 l.length c9) (.slice M x.length J):=ab.out.opn;subst e9;replace E:=bC a E j;replace F:=bC a F j;replace G:=bC a G j;replace j:=Kbq j a.size
    replace u0:=bC a u0 f;replace u1:=bC a u1 f;replace u2:=bC a u2 f;replace f:=Kbq f a.size;replace B:=bC a B d;replace C:=bC a C d;replace D:=bC a D d;replace s:=bF a s d;replace t:=bF a t d;replace u:=bF a u d;replace d:=Kbq d a.size;replace X:=bC a X z;replace Y:=bC a Y z;replace Z:=bC a Z z;replace z:=Kbq z a.size;replace y:=Q02 (Q03 y.out a);replace p:=Q02 (p.out.trans (a.mono p.out.size));clear a;go_wp2
    refine bodyPost_ret (v:=.tuple #[plv key (.slice o9 l.length c9) (.slice M x.length J),.bool false]) (by simp[results,Tryz.results123,go_sem,B,C,D]) rfl ⟨plv key (.slice o9 l.length c9) (.slice M x.length J),by rw[I.out];simp, ?_,Q0v p.out (by omega) _ _ _⟩;rw[H.out,if_pos (by simp),Q2O];exact InPm.mono (ab.out.step (Q33 v4 (w.heap.size+1+1) _ _ _) (.inl (by omega))) (by omega)
   |some mm=>
    have ac:=Q02 (an.out mm hdo);rw[hdo]at aa H I;simp only[Option.isSome_some]at aa;dsimp only at H;clear hdo an am;go_wp2_with fail;refine(aa.out).mono ?_;rintro e v3 ⟨v5,rfl,af,a⟩;have aO:=a.size;have al:=af mm rfl;obtain⟨o5,c5,e5,_⟩:=ownL.open (L:=Q16) al;subst e5;have T:=Q02 al;clear af al;replace E:=bC a E j;replace F:=bC a F j;replace G:=bC a G j;replace j:=Kbq j a.size;replace u0:=bC a u0 f;replace u1:=bC a u1 f;replace u2:=bC a u2 f;replace f:=Kbq f a.size;replace B:=bC a B d;replace C:=bC a C d
    replace D:=bC a D d;replace s:=bF a s d;replace t:=bF a t d;replace u:=bF a u d;replace d:=Kbq d a.size;replace X:=bC a X z;replace Y:=bC a Y z;replace Z:=bC a Z z;replace z:=Kbq z a.size;replace y:=Q02 (Q03 y.out a);replace p:=Q02 (p.out.trans (a.mono p.out.size));clear a;have aQ:=Q47 ac.out;have au:=Q02 (Q9L key o l.length c o2 c2 o5 c5 mm v3 (x.map Q30) (by rw[R.out];have:=HN.out;omega) (ownL.rds (L:=Q1T) y.out) aj.out.1 aj.out.2 (ownL.rds (L:=Q16) T.out) (by omega) HK.out ac.out);rw[R.out]at au;go_wp2_with fail
    refine(au.out).mono ?_;rintro e v6 ⟨o7,c7,rfl,aF,a⟩;have aS:=a.size;have aH:=Q02 aF;clear aF;replace E:=bC a E j;replace F:=bC a F j;replace G:=bC a G j;replace j:=Kbq j a.size;replace u0:=bC a u0 f;replace u1:=bC a u1 f;replace u2:=bC a u2 f;replace f:=Kbq f a.size;replace B:=bC a B d;replace C:=bC a C d;replace D:=bC a D d;replace s:=bF a s d;replace t:=bF a t d;replace u:=bF a u d;replace d:=Kbq d a.size;replace X:=bC a X z;replace Y:=bC a Y z;replace Z:=bC a Z z;replace z:=Kbq z a.size
    replace y:=Q02 (Q03 y.out a);replace T:=Q02 (Q03 T.out a);replace p:=Q02 (p.out.trans (a.mono p.out.size));clear a;have U:=Q02 (Q5n key o5 c5 mm o7 c7 (Q2y key mm::(x.map Q30).take 2) v6 (ownL.rds (L:=Q16) T.out) (Q4B T.out) (by omega) (ownL.rds (L:=Q1T) aH.out) (by simp;omega));rw[QdL ac.out ar.out]at U;obtain⟨nq,aB⟩:∃q,(Q2y key mm::(x.map Q30).take 2).length=q:=⟨_,rfl⟩;rw[aB]at U ⊢;obtain⟨rg,aC⟩:∃q,(Q2Z key mm::x).take 3=q:=⟨_,rfl⟩;rw[aC]at U H;clear aB aC;go_wp2_with fail;refine(U.out).mono ?_;rintro e v7 ⟨v9,rfl,ae,a⟩
    have ab:=Q02 ae;have aT:=a.size;clear ae;obtain⟨o9,c9,M,J,e9⟩:∃(o9:Option Addr) (c9:Nat) (M:Option Addr) (J:Nat),v9=plv key (.slice o9 mm.length c9) (.slice M rg.length J):=ab.out.opn;subst e9;replace E:=bC a E j;replace F:=bC a F j;replace G:=bC a G j;replace j:=Kbq j a.size;replace u0:=bC a u0 f;replace u1:=bC a u1 f;replace u2:=bC a u2 f;replace f:=Kbq f a.size;replace B:=bC a B d;replace C:=bC a C d;replace D:=bC a D d;replace s:=bF a s d;replace t:=bF a t d;replace u:=bF a u d;replace d:=Kbq d a.size
    replace X:=bC a X z;replace Y:=bC a Y z;replace Z:=bC a Z z;replace z:=Kbq z a.size;replace y:=Q02 (Q03 y.out a);replace T:=Q02 (Q03 T.out a);replace p:=Q02 (p.out.trans (a.mono p.out.size));clear a;go_wp2;refine bodyPost_ret (v:=.tuple #[plv key (.slice o9 mm.length c9) (.slice M rg.length J),.bool true]) (by simp[results,Tryz.results123,go_sem,B,C,D]) rfl ⟨plv key (.slice o9 mm.length c9) (.slice M rg.length J),by rw[I.out];simp, ?_,Q0v p.out (by omega) _ _ _⟩;rw[H.out,if_pos (by simp),Q2O]
    exact InPm.mono (ab.out.step (Q33 v7 (w.heap.size+1+1) _ _ _) (.inl (by omega))) (by omega)
theorem InPm.stps:Stps InPm:=⟨fun h s hd=>InPm.step h s hd⟩
theorem Q0c {W:World} {B:Nat} {c:Array Value} {t:TypeId} (h:W.heap[B]? =some (.cells c t (0,0))) (j:Nat) (u:Value) (hj:c[j]? =some u):W.cell? ⟨B,j,none⟩=some u:=Q00 h j u hj
theorem Qjc {P:Nat->Nat->World->Value->Pm->Prop} (u:Stps P) {b W:World} {B lo hi:Nat} {f:Value} {a:Pm} {o g:Option Addr} {c d:Nat} {x y z:Value} (v:W.heap[B]? =some (.cells #[x,y,z] 29 (0,0))) (w:Below b.heap.size b W) (n:b.heap.size<=B) (j:P lo hi W (plv a.key (.slice o a.l.length c) (.slice g a.ring.length d)) a) (s:b.heap.size<=lo) (h2:hi<=W.heap.size) (t:B < lo\/hi<=B):
  ∃B' lo hi p m i h,Value.pointer (some ⟨B,0,none⟩)=.pointer (some ⟨B',0,none⟩)/\f=f/\Hid ((setP W B (.int .i64 a.key) (.slice o a.l.length c) (.slice g a.ring.length d)).heap[B']? =some (.cells #[.int .i64 a.key,.slice p a.l.length m,.slice i a.ring.length h] 29 (0,0)))/\Hid (Below b.heap.size b (setP W B (.int .i64 a.key) (.slice o a.l.length c) (.slice g a.ring.length d)))/\b.heap.size<=B'/\B' < (setP W B (.int .i64 a.key) (.slice o a.l.length c) (.slice g a.ring.length d)).heap.size/\Hid (P lo hi (setP W B (.int .i64 a.key) (.slice o a.l.length c) (.slice g a.ring.length d)) (plv a.key (.slice p a.l.length m) (.slice i a.ring.length h)) a)/\b.heap.size<=lo/\hi<=(setP W B (.int .i64 a.key) (.slice o a.l.length c) (.slice g a.ring.length d)).heap.size/\(B' < lo\/hi<=B'):=by
 have q:=Q05 v 0 (.int .i64 a.key);have r:=Q05 q 1 (.slice o a.l.length c);have k:=Q05 r 2 (.slice g a.ring.length d);exact⟨B,lo,hi,o,c,g,d,rfl,rfl,k,Q0v w n _ _ _,n,(KEq k),u.go j (Q33 W B _ _ _) (by omega),s,by rw[Q2O];exact h2,t⟩
theorem Qj0 {P:Nat->Nat->World->Value->Pm->Prop} (q:Stps P) {b W:World} {lo hi:Nat} {f:Value} {a:Pm} {o g:Option Addr} {c d:Nat} (k:Below b.heap.size b W) (j:P lo hi W (plv a.key (.slice o a.l.length c) (.slice g a.ring.length d)) a) (p:b.heap.size<=lo) (h2:hi<=W.heap.size):
  ∃B' lo hi n m i h,Value.pointer (some ⟨W.heap.size,0,none⟩)=.pointer (some ⟨B',0,none⟩)/\f=f/\Hid ((W.alloc (.cells #[.int .i64 a.key,.slice o a.l.length c,.slice g a.ring.length d] 29)).heap[B']? =some (.cells #[.int .i64 a.key,.slice n a.l.length m,.slice i a.ring.length h] 29 (0,0)))/\Hid (Below b.heap.size b (W.alloc (.cells #[.int .i64 a.key,.slice o a.l.length c,.slice g a.ring.length d] 29)))/\b.heap.size<=B'/\B' < (W.alloc (.cells #[.int .i64 a.key,.slice o a.l.length c,.slice g a.ring.length d] 29)).heap.size/\Hid (P lo hi (W.alloc (.cells #[.int .i64 a.key,.slice o a.l.length c,.slice g a.ring.length d] 29)) (plv a.key (.slice n a.l.length m) (.slice i a.ring.length h)) a)/\b.heap.size<=lo/\hi<=(W.alloc (.cells #[.int .i64 a.key,.slice o a.l.length c,.slice g a.ring.length d] 29)).heap.size/\(B' < lo\/hi<=B'):=
 ⟨W.heap.size,lo,hi,o,c,g,d,rfl,rfl,World.alloc_heap_new W _,k.alloc k.size _,k.size,by simp,q.go j (Stp.of (lo:=0) (hi:=0) (KBq.alloc (Kaq _) _)) (.inl (Kcq _)),p,by simp;omega,.inr h2⟩
theorem Qc8 {cs:List Cd} {a i g:Int} {m:List Bk} (j:(Q0S cs cs.length).isSome=true) (b:Q0F a i g=true) (c:doL (Q0i cs cs.length) a i g=some m):(Q0S (cs++[(a,i,g)]) (cs++[(a,i,g)]).length).isSome=true:=by
 obtain⟨l,d⟩:=Option.isSome_iff_exists.1 j
 have f:Q0i cs cs.length=l:=by unfold Q0i;rw[d];rfl
 rw[f]at c
 have h:Q0S (cs++[(a,i,g)]) (cs++[(a,i,g)]).length=Q5f (Q0S cs cs.length) (a,i,g):=by
  unfold Q0S;rw[List.take_length,List.take_length,List.foldl_append]
  rfl
 rw[h,d];unfold Q5f;simp[b,c]
theorem Qet {cs:List Cd} {c:Cd}:∀q,q<=cs.length->Q0S (cs++[c]) q=Q0S cs q:=fun q h=>by
 unfold Q0S;rw[List.take_append_of_le_length h]
theorem QcD {cs:List Cd} {c:Cd}:∀q,q<=cs.length->Q1f (cs++[c]) q=Q1f cs q
 |0,_=>rfl
 |q+1,h=>by
  unfold Q1f;rw[QcD q (by omega)];unfold Q0i;rw[Qet (q+1) h]
theorem QeE (cs:List Cd):∀q,(Q1f cs q).getD 0 []=Q0i cs q
 |0=>rfl
 |q+1=>by unfold Q1f;simp
theorem Qa1 {key safe:Int} {cs:List Cd} (h:Q0f key cs safe=true):∀q,q<=cs.length->∀l∈Q1f cs q,Q0b l=true
 |0,_,l,a=>by
  have:l=[]:=by simpa[Q1f]using a
  subst this;exact(Q2P h 0 (by omega)).1
 |q+1,hq,l,a=>by
  unfold Q1f at a;have a:=List.mem_of_mem_take a
  rcases List.mem_cons.1 a with e|a
  ·rw[e];exact(Q2P h (q+1) (by omega)).1
  ·exact Qa1 h q (by omega) l a
theorem QgM (cs:List Cd):∀q,1<=(Q1f cs q).length
 |0=>by simp[Q1f]
 |q+1=>by unfold Q1f;simp
theorem Q2V {m:Jm} (h:Q0f m.key m.l m.safe=true):Q1M (Q0x m)=true:=by
 have e:Q0x m=⟨m.key,Q0i m.l m.l.length,Q17 m.key (Q1f m.l m.l.length)⟩:=by unfold Q0x;rw[if_pos h]
 have d:=Q81 m.l m.l.length;have c:=QgM m.l m.l.length
 have b:(Q17 m.key (Q1f m.l m.l.length)).length=(Q1f m.l m.l.length).length:=by simp[Q17]
 have a:=(Q2P h m.l.length (by omega)).1;rw[e];refine Qf3 (Q0K h).1 a (by dsimp only;omega) (by dsimp only;omega) (fun i hi=>?_) ?_
 ·dsimp only at hi ⊢
  rw[Q2X _ _ _ (by omega)];refine QaA m.key (Qa1 h m.l.length (Kaq _) _ ?_);rw[KFq,KGq (by omega)];exact List.getElem_mem _
 ·dsimp only
  rw[Q2X _ _ _ (by omega),QeE];unfold Q10;rw[if_pos ⟨Q1G _ _,Q1G _ _⟩];exact Q3j 8 (fun _ _=>rfl)
theorem Q9G {m:Jm} {a i g:Int} (h:Q3n m a i g=true):Q0f m.key m.l m.safe=true/\Q0f (Q3r m a i g).key (Q3r m a i g).l (Q3r m a i g).safe=true/\QhJ (Q0x m) a i g=true/\Qa8 (Q0x m) a i g=Q0x (Q3r m a i g)/\(Q3r m a i g).safe=((Q3r m a i g).l.length:Int)/\1<=(Q0x (Q3r m a i g)).ring.length/\(∀j,j < (Q0x (Q3r m a i g)).ring.length->((Q0x (Q3r m a i g)).ring.getD j []).length=8):=by
 unfold Q3n at h;rw[Bool.and_eq_true]at h;obtain⟨s,h2⟩:=h
 have z:Q3r m a i g=⟨m.key,m.l++[(a,i,g)],(m.l.length:Int)+1⟩:=by unfold Q3r;rw[if_pos s,if_pos h2]
 unfold Qe5 at s;rw[Bool.and_eq_true]at s;obtain⟨d,t⟩:=s;unfold Q8h at h2;rw[Bool.and_eq_true]at h2;obtain⟨E,k⟩:=h2
 have G:m.l.length < 100:=by simpa using k
 obtain⟨v,b⟩:=Option.isSome_iff_exists.1 E;have F:=Q0K d;have q:=Qc8 (Q1y d) t b
 have f:Q0f m.key (m.l++[(a,i,g)]) ((m.l.length:Int)+1)=true:=by
  unfold Q0f;simp only[Bool.and_eq_true,decide_eq_true_eq];refine⟨⟨⟨⟨F.1, ?_⟩, ?_⟩, ?_⟩,q⟩
  ·rw[List.length_append];simp;omega
  ·omega
  ·rw[List.length_append];simp
 have r:Q0i (m.l++[(a,i,g)]) (m.l.length+1)=v:=by
  have u:Q0S (m.l++[(a,i,g)]) (m.l.length+1)=Q5f (Q0S m.l m.l.length) (a,i,g):=by
   rw[Q2A (by simp),Qet _ (Kaq _)]
   congr 1
   simp
  obtain⟨I,n⟩:=Option.isSome_iff_exists.1 (Q1y d)
  have x:Q0i m.l m.l.length=I:=by unfold Q0i;rw[n];rfl
  rw[x]at b;unfold Q0i;rw[u,n];unfold Q5f;simp[t,b]
 have w:Q0x m=⟨m.key,Q0i m.l m.l.length,Q17 m.key (Q1f m.l m.l.length)⟩:=by unfold Q0x;rw[if_pos d]
 have c:(m.l++[(a,i,g)]).length=m.l.length+1:=by rw[List.length_append];rfl
 have A:Q0x ⟨m.key,m.l++[(a,i,g)],(m.l.length:Int)+1⟩=⟨m.key,v,(Q2Z m.key v::Q17 m.key (Q1f m.l m.l.length)).take 3⟩:=by
  unfold Q0x;dsimp only;rw[if_pos f,c,r]
  congr 1
  show Q17 m.key (Q1f (m.l++[(a,i,g)]) (m.l.length+1))=_
  have y:Q1f (m.l++[(a,i,g)]) (m.l.length+1)=(Q0i (m.l++[(a,i,g)]) (m.l.length+1)::Q1f (m.l++[(a,i,g)]) m.l.length).take 3:=rfl;rw[y,r,QcD _ (Kaq _)];unfold Q17;rw[List.map_take,List.map_cons]
 have p:=Q2V d
 have D:QhJ (Q0x m) a i g=true:=by
  unfold QhJ;rw[p,t,w];dsimp only;rw[b]
  rfl
 rw[z];refine⟨d,f,D, ?_, ?_, ?_⟩
 ·rw[A]
  unfold Qa8;rw[if_pos (by rw[p,t];rfl),w];dsimp only;rw[b]
 ·dsimp only;rw[c];simp
 ·have H:=Q2V (m:=⟨m.key,m.l++[(a,i,g)],(m.l.length:Int)+1⟩) f
  obtain⟨_,_,B,_,C⟩:=Q1r H;exact⟨B,fun j d=>(Q6P (C j d)).1⟩
def Q86 (out:List Int) (x:Int):List Int:=if out.contains x=true then out else out++[x]
def Q2M (out l:List Int):List Int:=l.foldl Q86 out
def Q3b (R:List (List (List Int))) (b:Nat):List Int:=R.foldl (fun out t=>Q2M out (t.getD b [])) []
def QdR (m:Pm) (b:Int):List Int:=if(Q1M m && decide (0<=b) && decide (b < 8))=true then Q3b m.ring b.toNat else[]
theorem Qbm (a l:List Int) (k:Nat) (h:k < l.length):Q2M a (l.take (k+1))=Q86 (Q2M a (l.take k)) (l.getD k 0):=by
 unfold Q2M;rw[List.take_succ_eq_append_getElem h,List.foldl_append,KFq,KGq h]
 rfl
theorem QdD (R:List (List (List Int))) (b i:Nat) (h:i < R.length):Q3b (R.take (i+1)) b=Q2M (Q3b (R.take i) b) ((R.getD i []).getD b []):=by
 unfold Q3b;rw[List.take_succ_eq_append_getElem h,List.foldl_append,KFq (l:=R),KGq h]
 rfl
theorem Qhq {l:List Int} {k:Nat} {x:Int} (h:k < l.length) (e:l.getD k 0=x):l.contains x=true:=by
 rw[List.contains_iff_mem,<-e,KFq,KGq h];exact List.getElem_mem h
theorem QiB {l:List Int} {x:Int} (h:∀j,j < l.length->l.getD j 0≠x):l.contains x=false:=by
 rw[Bool.eq_false_iff];intro a;rw[List.contains_iff_mem]at a;obtain⟨j,b,e⟩:=List.getElem_of_mem a;exact h j b (by rw[KFq,KGq b];exact e)
theorem QeJ {out:List Int} {x:Int} (h:out.contains x=true):Q86 out x=out:=by unfold Q86;rw[if_pos h]
theorem Qg3 {out:List Int} {x:Int} (h:out.contains x=false):Q86 out x=out++[x]:=by unfold Q86;rw[if_neg (by rw[h];decide)]
theorem Qi0 {l:List Int} {x:Int} {k:Nat} (h:∀j,j < k->l.getD j 0≠x) (h2:l.getD k 0≠x):∀j,j < k+1->l.getD j 0≠x:=fun j hj=>by
 by_cases e:j=k
 ·subst e;exact h2
 ·exact h j (by omega)
theorem QhV {w:World} {x:Int} {T:TypeId}:RdL Q2m (w.alloc (.cells #[.int .i64 x] T)).heap.size (w.alloc (.cells #[.int .i64 x] T)) (some ⟨w.heap.size,0,none⟩) [x]:=
 .inr ⟨w.heap.size,0,rfl,by simp,fun i hi j b=>by
  have a:i=0:=by simpa using hi
  subst a
  match j,b with
  |0,_=>simp[Q2m]⟩
theorem Qei (o:Option Addr) (c:Nat) (l:List Int) (x:Int) (w:World) (g:RdI w.heap.size w o l) (u:l.length<=1048576):
  Calls Tryz.prog 176 #[.slice o l.length c,.int .i64 x] w fun e q=> ∃r:Int,e=.returned (.int .i64 r)/\decide (0<=r)=l.contains x/\q=w:=by
 go_enter Tryz.func176,Tryz.ntmps176;go_wp2
 go_loopw [8] (fun i wr=> ∃k:Nat,k<=l.length/\i=.int .i64 k/\wr=w/\Hid (∀j,j < k->l.getD j 0≠x))
  (fun i _=>l.length - (intOf i).toNat)
 case atStart=>exact⟨0,Kcq _,rfl,rfl,fun j h=>absurd h (KMq _)⟩
 case round=>
  obtain⟨k,t,rfl,rfl,d⟩:=hrel
  by_cases hlt:k < l.length
  ·rcases g with g|⟨b,off,rfl,s,a⟩
   ·subst g;simp at hlt
   have m:=RdL.int a k hlt;clear a
   have v:(k:Int) < (l.length:Int):=by omega
   by_cases hx:l.getD k 0=x
   ·have f:=Q02 (Qhq hlt hx)
    rw[hx]at m;clear hx d;go_wp2;go_ret;exact⟨(k:Int),rfl,by rw[f.out];simp,rfl⟩
   ·have f:=Q02 (Qi0 d.out hx)
    obtain⟨y,n⟩:∃y,l.getD k 0=y:=⟨_,rfl⟩;rw[n]at m hx
    have p:¬x=y:=fun e=>hx e.symm
    clear n d;go_wp2;go_roundw
    case rel=>exact⟨k+1,by omega,by go_num,by trivial,f.out⟩
    case measure=>simp[intOf];omega
  ·have e:k=l.length:=by omega
   subst e;have f:=Q02 (QiB d.out);clear d;go_wp2;go_ret;exact⟨-1,rfl,by rw[f.out];rfl,rfl⟩
theorem QaF (o:Option Addr) (c:Nat) (l:List Int) (x:Int) (w:World) (b:RdI w.heap.size w o l) (g:l.length<=1048576):
  Calls Tryz.prog 145 #[.slice o l.length c,.int .i64 x] w fun e h=>e=.returned (.bool (l.contains x))/\h=w:=by
 have a:=Q02 (Qei o c l x w b g);clear b;go_enter Tryz.func145,Tryz.ntmps145;go_wp2_with fail;refine a.out.mono ?_;rintro e i ⟨r,rfl,d,rfl⟩;have f:=Q02 d;clear d a;go_wp2;go_ret;exact⟨by rw[<-f.out];rfl,rfl⟩
theorem Q4K {ll:List (List Int)} (h:Q1j ll=true):ll.length=8/\∀b,b < 8->Q0P (ll.getD b [])=true:=by
 unfold Q1j at h;simp only[Bool.and_eq_true,decide_eq_true_eq,List.all_eq_true,List.mem_range]at h;exact⟨h.1,h.2⟩
structure JInv (k B R C:Nat) (w0 wr:World) (key:Int) (cs:List Cd) (o:Option Addr) (c:Nat):Prop where
 box:wr.heap[B]? =some (.cells #[.int .i64 key,.slice o cs.length c,.int .i64 0] 25 (0,0))
 res:wr.heap[R]? =some (.cells #[.int .i64 0,.slice none 0 0,.int .i64 0] 25 (0,0))
 own:QaU wr C (.slice o cs.length c) cs
 dr:Dr k w0 wr
theorem JInv.draw {k B R C:Nat} {b wr x:World} {key:Int} {cs:List Cd} {o:Option Addr} {c:Nat} (h:JInv k B R C b wr key cs o c) (d:isCur k x) (a:wr.grownBy x (some k)) (j:k < b.heap.size) (i:b.heap.size<=R) (f:R < B) (g:B < C):JInv k B R C b x key cs o c:=
 ⟨Q0a a (KEq h.box) (by omega) h.box,Q0a a (KEq h.res) (by omega) h.res,Q3C h.own a (by omega),h.dr.step d a⟩
theorem JInv.below {k B R C:Nat} {b wr x:World} {key:Int} {cs:List Cd} {o:Option Addr} {c:Nat} (h:JInv k B R C b wr key cs o c) (a:Below wr.heap.size wr x) (d:k < b.heap.size):JInv k B R C b x key cs o c:=
 ⟨(a.block _ (KEq h.box)).trans h.box,(a.block _ (KEq h.res)).trans h.res,Q03 h.own a,h.dr.below d (a.mono h.dr.gr.size)⟩
theorem QeB (key:Int) (o:Option Addr) (cap:Nat) (l:List Bk) (d:Option Addr) (h:Nat) (a:List Hd) (k i g:Int) (w:World) (y:Q1D key=true) (s:Q0b l=true) (x:Q0F k i g=true) (b:l.length<=100) (r:RdK w.heap.size w o l) (v:RdL Q0E w.heap.size w d a) (p:d=none->h=0) (j:a.length<=3):
  Calls Tryz.prog 95 #[plv key (.slice o l.length cap) (.slice d a.length h),cmd k i g] w fun e q=> ∃u t c2 f A c,e=.returned (.tuple #[plv key (.slice u t c2) (.slice f A c),.bool (doL l k i g).isSome])/\Below w.heap.size w q:=by
 cases hm:doL l k i g with
 |none=>
  refine(Qbe key o cap l d a.length h k i g w s hm b r).mono ?_;rintro e q ⟨rfl,n⟩;exact⟨_,_,_,_,_,_,rfl,n⟩
 |some m=>
  refine(Q6Q key o cap l d h a k i g m w y s x hm b r v p j).mono ?_;rintro e q ⟨u,c2,f,t,c,C,B,z,rfl,_,_,_,_,_,n⟩;exact⟨_,_,_,_,_,_,rfl,n⟩
theorem QfQ (key:Int) (o:Option Addr) (cap:Nat) (cs:List Cd) (l:List Bk) (n:Nat) (r:n=cs.length) (w:World) (hs:Q0i cs cs.length=l) (k:RdC w.heap.size w o cs) (p:Q1D key=true) (q:cs.length<=100) (c:(Q0S cs cs.length).isSome=true):
  Calls Tryz.prog 43 #[.int .i64 key,.slice o n cap] w fun e b=> ∃g h d f a,e=.returned (plv key (.slice g l.length h) (.slice d a.length f))/\RdK b.heap.size b g l/\RdL Q0E b.heap.size b d a/\(d=none->f=0)/\a.length<=3/\Below w.heap.size w b:=by
 subst hs r;refine(Q4f key o cap cs w k p q c).mono ?_;rintro e b ⟨g,h,d,f,a,rfl,i,h2,_,j,m⟩;exact⟨g,h,d,f,a,rfl,ownL.rds (L:=Q16) i,ownL.rds (L:=Q0E) h2,QiM h2,j,m⟩
theorem Qj3 {a W:World} {B:Nat} {x y z f:Value} (c:Below a.heap.size a W) (b:a.heap.size<=B):∃B',Value.pointer (some ⟨B,0,none⟩)=.pointer (some ⟨B',0,none⟩)/\f=f/\Hid (Below a.heap.size a (setP W B x y z)):=⟨B,rfl,rfl,Q0s c b _ _ _⟩
theorem QiP {a W:World} {x y z f:Value} {T:TypeId} (b:Below a.heap.size a W):∃B',Value.pointer (some ⟨W.heap.size,0,none⟩)=.pointer (some ⟨B',0,none⟩)/\f=f/\Hid (Below a.heap.size a (W.alloc (.cells #[x,y,z] T))):=⟨_,rfl,rfl,b.alloc b.size _⟩
theorem Qgz {w a:World} {c:Array Value} {T:TypeId} (b:Below (w.alloc (.cells c T)).heap.size (w.alloc (.cells c T)) a):a.heap[w.heap.size]? =some (.cells c T (0,0)):=
 (b.block w.heap.size (by simp)).trans (World.alloc_heap_new w (.cells c T))
theorem Qfc {w a:World} {c:Array Value} {T:TypeId} (b:Below (w.alloc (.cells c T)).drew.heap.size (w.alloc (.cells c T)).drew a):a.heap[w.heap.size]? =some (.cells c T (0,0)):=
 (b.block w.heap.size (by simp)).trans (World.alloc_heap_new w (.cells c T))
theorem Q7F (k:Nat) (w:World) (hc:isCur k w) (hk:k < w.heap.size):
  Calls Tryz.prog 133 #[.pointer (some ⟨k,0,none⟩)] w fun e w'=> ∃v m,e=.returned v/\InJm w.heap.size w'.heap.size w' v m/\Q0f m.key m.l m.safe=true/\m.l.length<=10/\Dr k w w':=by
 obtain⟨W0,ao⟩:∃W,w.alloc (.cells #[.int .i64 0,.slice none 0 0,.int .i64 0] 25)=W:=⟨_,rfl⟩;have bc:=alb0v0v1 ao;have aQ:=Q02 (show Dr k w W0 from⟨hc.below (bc.mono hk),by rw[<-ao];exact Q0N w _ k⟩);have a9:Hid _:=alx0v0v1 ao;have ai:=alz0v0v1 ao;clear bc hc;go_enter Tryz.func133,Tryz.ntmps133;go_wp2_with fail;refine(Q0t k 50 W0 aQ.out.cur (by decide) (by decide)).mono ?_;rintro e M ⟨key,rfl,bN,bA,be,ar⟩;have a2:=Q02 (aQ.out.step be ar);have ba:=Q02 (Q0a ar ai (by omega) a9.out);have y:w.heap.size < M.heap.size:=Kbq ai ar.size
 have T:=Q02 (show Q1D key=true by unfold Q1D;simp;omega);clear be ar a9 aQ ai;have aa:Below M.heap.size M (M.alloc (.cells #[.int .i64 key,.slice none 0 0,.int .i64 0] 25)):=KBq.alloc (Kaq _) _;have O:Hid ((M.alloc (.cells #[.int .i64 key,.slice none 0 0,.int .i64 0] 25)).heap[M.heap.size]? =some (.cells #[.int .i64 key,.slice none 0 0,.int .i64 0] 25 (0,0))):=World.alloc_heap_new M _;have bb:=Q02 ((aa.block _ y).trans ba.out);have aR:=Q02 (a2.out.below hk (aa.mono (KIq y)))
 have bv:M.heap.size < ((M.alloc (.cells #[.int .i64 key,.slice none 0 0,.int .i64 0] 25))).heap.size:=by simp
 have a7:Hid (QaU (M.alloc (.cells #[.int .i64 key,.slice none 0 0,.int .i64 0] 25)) (M.heap.size+1) (.slice none 0 0) []):=KLq _ _ _ _
 have bp:Hid (((M.alloc (.cells #[.int .i64 key,.slice none 0 0,.int .i64 0] 25))).heap.size=M.heap.size+1):=by unfold Hid;simp
 clear aa ba a2;go_wp2_with fail;generalize (M.alloc (.cells #[.int .i64 key,.slice none 0 0,.int .i64 0] 25))=W2 at *;refine(Q0t k 10 W2 aR.out.cur (by decide) (by decide)).mono ?_;rintro e w3 ⟨n',rfl,bu,bD,bf,bh⟩;obtain⟨n,rfl⟩:=Int.eq_ofNat_of_zero_le bu;have aT:=Q02 (JInv.draw (C:=M.heap.size+1) (⟨O.out,bb.out,a7.out,aR.out⟩:JInv k M.heap.size w.heap.size (M.heap.size+1) w W2 key [] none 0) bf bh hk (Kaq _) y (Nat.lt_succ_self _));clear bf bh O bb a7 aR bv bp;obtain⟨B,hB⟩:∃B,M.heap.size=B:=⟨_,rfl⟩;simp only[hB]at aT y ⊢;clear hB;go_wp2
 go_loopw [5] (fun iv wr=> ∃(i:Nat) (cs:List Cd) (I:Option Addr) (H:Nat),i<=n/\iv=.int .i64 (i:Int)/\Hid (JInv k B w.heap.size (B+1) w wr key cs I H)/\cs.length<=i/\Hid ((Q0S cs cs.length).isSome=true))
  (fun iv _=>n - (intOf iv).toNat)
 case atStart=>exact⟨0,[],none,0,Kcq _,rfl,aT.out,Kaq _,rfl⟩
 case round=>
  rename World=>wr
  obtain⟨i,cs,I,H,bM,rfl,HJ,bL,N⟩:=hrel;clear aT;have a4:=Q02 (HJ.out.dr.lt hk)
  by_cases hlt:i < n
  ·have bB:(i:Int) < (n:Int):=by omega
   go_wp2_with fail;refine(Q7y k wr HJ.out.dr.cur a4.out).mono ?_;rintro e r ⟨a,J,g,rfl,bk,hd⟩;have a8:=Q02 bk;have aS:=Q02 (HJ.out.draw hd.cur hd.gr hk (Kaq _) y (Nat.lt_succ_self _));clear bk hd HJ a4;have bK:B < r.heap.size:=(KEq aS.out.box);have aa:Below r.heap.size r (r.alloc (.cells #[.int .i64 a,.int .i64 J,.int .i64 g] 77)):=KBq.alloc (Kaq _) _
   have O:Hid ((r.alloc (.cells #[.int .i64 a,.int .i64 J,.int .i64 g] 77)).heap[r.heap.size]? =some (.cells #[.int .i64 a,.int .i64 J,.int .i64 g] 77 (0,0))):=World.alloc_heap_new r _;have am:=Q02 (aS.out.below aa hk)
   have D:r.heap.size < ((r.alloc (.cells #[.int .i64 a,.int .i64 J,.int .i64 g] 77))).heap.size:=by simp
   clear aa aS;obtain⟨l,hl⟩:∃l,Q0i cs cs.length=l:=⟨_,rfl⟩;have HL:=Q02 hl
   have a5:=Q02 (show Q0b l=true/\l.length<=100 by
    have h:=Q4b (key:=key) (cs:=cs) (safe:=0) (by unfold Q0f;simp only[Bool.and_eq_true,decide_eq_true_eq];exact⟨⟨⟨⟨T.out,by omega⟩,by omega⟩,by omega⟩,N.out⟩);rw[hl]at h
    exact h)
   obtain⟨m,hm⟩:∃m,m=cs.length:=⟨_,rfl⟩;have HM:=Q02 hm
   have aP:Hid ((r.alloc (.cells #[.int .i64 a,.int .i64 J,.int .i64 g] 77)).heap[B]? =some (.cells #[.int .i64 key,.slice I m H,.int .i64 0] 25 (0,0))):=by unfold Hid;rw[hm];exact am.out.box
   have ad:=Q02 (fun W (G:Below ((r.alloc (.cells #[.int .i64 a,.int .i64 J,.int .i64 g] 77))).heap.size (r.alloc (.cells #[.int .i64 a,.int .i64 J,.int .i64 g] 77)) W)=>QfQ key I H cs l m hm W hl (((ownL.rds (L:=Q3F) am.out.own).kept G (Kaq _)).le G.size) T.out (by omega) N.out);have al:=Q02 (fun o1 c1 ak ae y W rk rr cr af=>QeB key o1 c1 l ak ae y a J g W T.out a5.out.1 a8.out a5.out.2 rk rr cr af)
   have bt:m<=i:=by omega
   clear hl hm;obtain⟨t,ht⟩:∃t,(doL l a J g).isSome=t:=⟨_,rfl⟩;rw[ht]at al;have HT:=Q02 ht;clear ht;go_upto_region 7 with fail;generalize (r.alloc (.cells #[.int .i64 a,.int .i64 J,.int .i64 g] 77))=X2 at *
   have P:B < X2.heap.size:=by omega
   have z0:X2.cell? ⟨B,0,none⟩=some (.int .i64 key):=Q00 aP.out 0 _ rfl;have z1:X2.cell? ⟨B,1,none⟩=some (.slice I m H):=Q00 aP.out 1 _ rfl;have u0:X2.cell? ⟨r.heap.size,0,none⟩=some (.int .i64 a):=Q00 O.out 0 _ rfl;have u1:X2.cell? ⟨r.heap.size,1,none⟩=some (.int .i64 J):=Q00 O.out 1 _ rfl;have u2:X2.cell? ⟨r.heap.size,2,none⟩=some (.int .i64 g):=Q00 O.out 2 _ rfl
   go_cut [7,8]from 21 to 30 (fun s7 s8 wx=> ∃B',s7=.pointer (some ⟨B',0,none⟩)/\s8=.bool t/\Hid (Below X2.heap.size X2 wx))
   case first=>
    go_region_held3 (fun w'=>w'.cell? ⟨B,0,none⟩=some (.int .i64 key)/\w'.cell? ⟨B,1,none⟩=some (.slice I m H)/\w'.cell? ⟨r.heap.size,0,none⟩=some (.int .i64 a)/\w'.cell? ⟨r.heap.size,1,none⟩=some (.int .i64 J)/\w'.cell? ⟨r.heap.size,2,none⟩=some (.int .i64 g)) (first|with_reducible exact⟨U,V,X,Y,Z⟩|with_reducible exact⟨aK,aL,aM,aN,aO⟩|with_reducible exact⟨z0,z1,u0,u1,u2⟩|with_reducible exact⟨Q06 U (show B < X2.heap.size by omega),Q06 V (show B < X2.heap.size by omega),Q06 X (show r.heap.size < X2.heap.size by omega),Q06 Y (show r.heap.size < X2.heap.size by omega),Q06 Z (show r.heap.size < X2.heap.size by omega)⟩|with_reducible exact⟨Q06 U (show B < b.heap.size by omega),Q06 V (show B < b.heap.size by omega),Q06 X (show r.heap.size < b.heap.size by omega),Q06 Y (show r.heap.size < b.heap.size by omega),Q06 Z (show r.heap.size < b.heap.size by omega)⟩|go_keep) (first|(go_at_call 43;have E:=ad.out X2.drew (KHq KBq);with_reducible refine E.mono ?_;clear E;rintro e b ⟨o1,c1,ak,ae,y,rfl,aZ,a0,aX,af,G⟩;have ah:Below X2.heap.size X2 b:=Below.trans (show Below X2.heap.size X2 X2.drew from(KHq KBq)) (G.mono (by simp));have bx:X2.heap.size<=b.heap.size:=ah.size;have x:Below X2.heap.size X2 b:=ah;have aK:=(x.cell (p:=⟨B,0,none⟩) P).trans z0;have aL:=(x.cell (p:=⟨B,1,none⟩) P).trans z1;have aM:=(x.cell (p:=⟨r.heap.size,0,none⟩) D).trans u0;have aN:=(x.cell (p:=⟨r.heap.size,1,none⟩) D).trans u1;have aO:=(x.cell (p:=⟨r.heap.size,2,none⟩) D).trans u2;(try have aH:=(KEq A));clear G)|(go_at_call 43;have E:=ad.out (X2.alloc (.cells #[.int .i64 0,.slice none 0 0,.slice none 0 0] 29)).drew (KHq (KBq.alloc (Kaq _) _));with_reducible refine E.mono ?_;clear E;rintro e b ⟨o1,c1,ak,ae,y,rfl,aZ,a0,aX,af,G⟩;have ah:Below X2.heap.size X2 b:=Below.trans (show Below X2.heap.size X2 (X2.alloc (.cells #[.int .i64 0,.slice none 0 0,.slice none 0 0] 29)).drew from(KHq (KBq.alloc (Kaq _) _))) (G.mono (by simp));have bx:X2.heap.size<=b.heap.size:=ah.size;have x:Below X2.heap.size X2 b:=ah;have aK:=(x.cell (p:=⟨B,0,none⟩) P).trans z0;have aL:=(x.cell (p:=⟨B,1,none⟩) P).trans z1;have aM:=(x.cell (p:=⟨r.heap.size,0,none⟩) D).trans u0;have aN:=(x.cell (p:=⟨r.heap.size,1,none⟩) D).trans u1;have aO:=(x.cell (p:=⟨r.heap.size,2,none⟩) D).trans u2;have A:b.heap[X2.heap.size]? =some (.cells #[.int .i64 0,.slice none 0 0,.slice none 0 0] 29 (0,0)):=(Qfc G);(try have aH:=(KEq A));clear G)|(go_at_call 95;have E:=al.out o1 c1 ak ae y b aZ a0 aX af;with_reducible refine E.mono ?_;clear E;rintro e f ⟨o2,n2,c2,bw,n3,bq,rfl,G⟩;have R:Below b.heap.size b f:=G;have bz:b.heap.size<=f.heap.size:=R.size;have z:Below X2.heap.size X2 f:=x.trans (R.mono x.size);have U:=(z.cell (p:=⟨B,0,none⟩) P).trans z0;have V:=(z.cell (p:=⟨B,1,none⟩) P).trans z1;have X:=(z.cell (p:=⟨r.heap.size,0,none⟩) D).trans u0;have Y:=(z.cell (p:=⟨r.heap.size,1,none⟩) D).trans u1;have Z:=(z.cell (p:=⟨r.heap.size,2,none⟩) D).trans u2;(try have c:f.heap[X2.heap.size]? =some (.cells #[.int .i64 0,.slice none 0 0,.slice none 0 0] 29 (0,0)):=(R.block _ (KEq A)).trans A);(try have aI:=(KEq c));(try have aJ:=(KEq d));(try have av:f.cell? ⟨X2.heap.size,0,none⟩=some (.int .i64 0):=Q00 c 0 _ rfl);(try have aB:=Q01 c 0);(try have aw:f.cell? ⟨X2.heap.size,1,none⟩=some (.slice none 0 0):=Q00 c 1 _ rfl);(try have aC:=Q01 c 1);(try have ax:f.cell? ⟨X2.heap.size,2,none⟩=some (.slice none 0 0):=Q00 c 2 _ rfl);(try have aD:=Q01 c 2);(try have ay:f.cell? ⟨b.heap.size,0,none⟩=some (.int .i64 0):=Q00 d 0 _ rfl);(try have aE:=Q01 d 0);(try have az:f.cell? ⟨b.heap.size,1,none⟩=some (.slice none 0 0):=Q00 d 1 _ rfl);(try have aF:=Q01 d 1);(try have aA:f.cell? ⟨b.heap.size,2,none⟩=some (.slice none 0 0):=Q00 d 2 _ rfl);(try have aG:=Q01 d 2);clear G)|(go_at_call 95;have E:=al.out o1 c1 ak ae y (b.alloc (.cells #[.int .i64 0,.slice none 0 0,.slice none 0 0] 29)) ((aZ.kept (KBq.alloc (Kaq _) _) (Kaq _)).le (by simp)) ((a0.kept (KBq.alloc (Kaq _) _) (Kaq _)).le (by simp)) aX af;with_reducible refine E.mono ?_;clear E;rintro e f ⟨o2,n2,c2,bw,n3,bq,rfl,G⟩;have R:Below b.heap.size b f:=Below.trans (show Below b.heap.size b (b.alloc (.cells #[.int .i64 0,.slice none 0 0,.slice none 0 0] 29))from(KBq.alloc (Kaq _) _)) (G.mono (by simp));have bz:b.heap.size<=f.heap.size:=R.size;have z:Below X2.heap.size X2 f:=x.trans (R.mono x.size);have U:=(z.cell (p:=⟨B,0,none⟩) P).trans z0;have V:=(z.cell (p:=⟨B,1,none⟩) P).trans z1;have X:=(z.cell (p:=⟨r.heap.size,0,none⟩) D).trans u0;have Y:=(z.cell (p:=⟨r.heap.size,1,none⟩) D).trans u1;have Z:=(z.cell (p:=⟨r.heap.size,2,none⟩) D).trans u2;(try have c:f.heap[X2.heap.size]? =some (.cells #[.int .i64 0,.slice none 0 0,.slice none 0 0] 29 (0,0)):=(R.block _ (KEq A)).trans A);have d:f.heap[b.heap.size]? =some (.cells #[.int .i64 0,.slice none 0 0,.slice none 0 0] 29 (0,0)):=(Qgz G);(try have aI:=(KEq c));(try have aJ:=(KEq d));(try have av:f.cell? ⟨X2.heap.size,0,none⟩=some (.int .i64 0):=Q00 c 0 _ rfl);(try have aB:=Q01 c 0);(try have aw:f.cell? ⟨X2.heap.size,1,none⟩=some (.slice none 0 0):=Q00 c 1 _ rfl);(try have aC:=Q01 c 1);(try have ax:f.cell? ⟨X2.heap.size,2,none⟩=some (.slice none 0 0):=Q00 c 2 _ rfl);(try have aD:=Q01 c 2);(try have ay:f.cell? ⟨b.heap.size,0,none⟩=some (.int .i64 0):=Q00 d 0 _ rfl);(try have aE:=Q01 d 0);(try have az:f.cell? ⟨b.heap.size,1,none⟩=some (.slice none 0 0):=Q00 d 1 _ rfl);(try have aF:=Q01 d 1);(try have aA:f.cell? ⟨b.heap.size,2,none⟩=some (.slice none 0 0):=Q00 d 2 _ rfl);(try have aG:=Q01 d 2);clear G))
    all_goals (go_wp2_with fail;go_meet)
    all_goals first
     |with_reducible exact Qj3 z (show _<=X2.heap.size by omega)
     |with_reducible exact Qj3 z (show _<=b.heap.size by omega)
     |with_reducible exact QiP z
   case rest=>
    obtain⟨B9,rfl,rfl,a1⟩:=hcut;have G:=a1.out;have bO:=G.size;have aW:=Q02 ((G.block _ D).trans O.out);have ac:=Q02 (am.out.below G hk);clear G a1 O am aP z0 z1 u0 u1 u2 ad al
    cases t with
    |false=>
     go_wp2;go_roundw
     case rel=>exact⟨i+1,cs,I,H,by omega,by go_num,ac.out,by omega,N.out⟩
     case measure=>simp[intOf];omega
    |true=>
     obtain⟨mm,bj⟩:=Option.isSome_iff_exists.1 HT.out;have aV:=Q02 (Qc8 N.out a8.out (by rw[HL.out];exact bj));clear bj
     have ab:Hid (wc.heap[B]? =some (.cells #[.int .i64 key,.slice I m H,.int .i64 0] 25 (0,0))):=by unfold Hid;rw[HM.out];exact ac.out.box
     have y1:wc.cell? ⟨B,1,none⟩=some (.slice I m H):=Q00 ab.out 1 _ rfl;have v0:wc.cell? ⟨r.heap.size,0,none⟩=some (.int .i64 a):=Q00 aW.out 0 _ rfl;have v1:wc.cell? ⟨r.heap.size,1,none⟩=some (.int .i64 J):=Q00 aW.out 1 _ rfl;have v2:wc.cell? ⟨r.heap.size,2,none⟩=some (.int .i64 g):=Q00 aW.out 2 _ rfl
     have aU:Hid (QaU wc (B+1) (.slice I m H) cs):=by unfold Hid;rw[HM.out];exact ac.out.own
     have HA:=Q02 (World.ownsRow.alloc aU.out (.cells #[.int .i64 a,.int .i64 J,.int .i64 g] 77))
     have bs:B < wc.heap.size:=by omega
     go_wp2_with (first|(at_builtin;refine Q07 QdE rfl (.tmp 33) (.tmp 35) rfl (B+1) _ cs rfl HA.out (some ⟨wc.heap.size,0,none⟩) 1 _ [(a,J,g)] 1 rfl rfl (by simp) Q9a (by simp;omega) (by simp;omega) ?_));intro v8 w8 aY au _;obtain⟨o8,c8,e8,_⟩:=ownL.open (L:=Q3F) aY;subst e8
     have a6:Hid (∀q,q<=B->¬(some q=(Value.slice I m H).ownBlock)):=fun q hq e=>by have:=(aU.out.lt q e.symm).1;omega
     have aq:Below wc.heap.size wc (wc.alloc (.cells #[.int .i64 a,.int .i64 J,.int .i64 g] 77)):=KBq.alloc (Kaq _) _;have aj:=(au.block B (by simp;omega) (a6.out B (Kaq _))).trans ((aq.block B bs).trans ab.out);have bl:=(au.block w.heap.size (by simp;omega) (a6.out _ (by omega))).trans ((aq.block w.heap.size (by omega)).trans ac.out.res);have bd:Below w.heap.size wc w8:=(aq.mono (by omega)).grown au (by simp;omega) (fun q h=>by have:=(aU.out.lt q h).1;omega);have a3:=Q02 (ac.out.dr.below hk bd)
     have p8:w8.cell? ⟨B,1,none⟩=some (.slice I m H):=Q00 aj 1 _ rfl;have f8:w8.frozen? ⟨B,1,none⟩=false:=Q01 aj 1;have bm:=Q02 (show JInv k B w.heap.size (B+1) w (w8.setCell ⟨B,1,none⟩ (.slice o8 (cs++[(a,J,g)]).length c8)) key (cs++[(a,J,g)]) o8 c8 from⟨Q05 aj 1 _,Q20 bl (by omega),Q1E aY aj 1 _,a3.out.below hk (KBq.setCell (p:=⟨B,1,none⟩) (by exact KIq y) _)⟩);clear au aY aj bl bd aq a3 y1 v0 v1 v2;go_wp2;go_roundw
     case rel=>exact⟨i+1,cs++[(a,J,g)],o8,c8,by omega,by go_num,by have h:=bm.out;rw[List.length_append]at h;exact h,by simp;omega,aV.out⟩
     case measure=>simp[intOf];omega
  ·have e:i=n:=by omega
   subst e
   have hn:i<=10:=by omega
   obtain⟨m,hm⟩:∃m,m=cs.length:=⟨_,rfl⟩;have HM:=Q02 hm
   have ab:Hid (wr.heap[B]? =some (.cells #[.int .i64 key,.slice I m H,.int .i64 0] 25 (0,0))):=by unfold Hid;rw[hm];exact HJ.out.box
   have z1:wr.cell? ⟨B,1,none⟩=some (.slice I m H):=Q00 ab.out 1 _ rfl
   have bt:m<=i:=by omega
   clear hm;go_wp2_with fail;refine(Q0t k ((m:Int)+1) wr HJ.out.dr.cur (by omega) (by omega)).mono ?_;rintro e w5 ⟨s,rfl,ai,bE,bg,bi⟩;have an:=Q02 (HJ.out.draw bg bi hk (Kaq _) y (Nat.lt_succ_self _))
   have ag:w5.heap[B]? =some (.cells #[.int .i64 key,.slice I m H,.int .i64 0] 25 (0,0)):=by rw[HM.out];exact an.out.box
   have ap:=Q05 ag 2 (.int .i64 s);have F:=Q20 (j:=2) (u:=.int .i64 s) an.out.res (show w.heap.size≠B by omega);have bo:=Q02 (Q1E (Q1E (Q1E (Q1E (show QaU w5 (B+1) (.slice I m H) cs by rw[HM.out];exact an.out.own) ag 2 (.int .i64 s)) F 0 (.int .i64 key)) (Q05 F 0 (.int .i64 key)) 1 (.slice I m H)) (Q05 (Q05 F 0 (.int .i64 key)) 1 (.slice I m H)) 2 (.int .i64 s));have y2:w5.cell? ⟨B,2,none⟩=some (.int .i64 0):=Q00 ag 2 _ rfl;have bJ:w5.frozen? ⟨B,2,none⟩=false:=Q01 ag 2;have v0:(w5.setCell ⟨B,2,none⟩ (.int .i64 s)).cell? ⟨B,0,none⟩=some (.int .i64 key):=Q00 ap 0 _ rfl
   have v1:(w5.setCell ⟨B,2,none⟩ (.int .i64 s)).cell? ⟨B,1,none⟩=some (.slice I m H):=Q00 ap 1 _ rfl;have v2:(w5.setCell ⟨B,2,none⟩ (.int .i64 s)).cell? ⟨B,2,none⟩=some (.int .i64 s):=Q00 ap 2 _ rfl;have r0:(w5.setCell ⟨B,2,none⟩ (.int .i64 s)).cell? ⟨w.heap.size,0,none⟩=some (.int .i64 0):=Q00 F 0 _ rfl;have bG:(w5.setCell ⟨B,2,none⟩ (.int .i64 s)).frozen? ⟨w.heap.size,0,none⟩=false:=Q01 F 0;have r1:(w5.setCell ⟨B,2,none⟩ (.int .i64 s)).cell? ⟨w.heap.size,1,none⟩=some (.slice none 0 0):=Q00 F 1 _ rfl
   have bH:(w5.setCell ⟨B,2,none⟩ (.int .i64 s)).frozen? ⟨w.heap.size,1,none⟩=false:=Q01 F 1;have r2:(w5.setCell ⟨B,2,none⟩ (.int .i64 s)).cell? ⟨w.heap.size,2,none⟩=some (.int .i64 0):=Q00 F 2 _ rfl;have bI:(w5.setCell ⟨B,2,none⟩ (.int .i64 s)).frozen? ⟨w.heap.size,2,none⟩=false:=Q01 F 2;have bn:=Q02 (show Q0f key cs s=true by unfold Q0f;simp only[Bool.and_eq_true,decide_eq_true_eq];exact⟨⟨⟨⟨T.out,by omega⟩,ai⟩,by have:=HM.out;omega⟩,N.out⟩);clear bg bi HJ ab ag ap F z1;go_wp2
   refine bodyPost_ret (v:=jrn key (.slice I m H) s) (by simp[results,Tryz.results133,go_sem,r0,r1,r2]) rfl ⟨_,⟨key,cs,s⟩,rfl,⟨_,rfl,InRow.mono (InRow.of bo.out) (by omega) (Kaq _)⟩,bn.out,show cs.length<=10 by omega,an.out.dr.below hk ?_⟩;exact Q0s (KBq.setCell (p:=⟨B,2,none⟩) (KIq y) _) (Kaq _) _ _ _
structure JS (k B R C:Nat) (w0 wr:World) (key s:Int) (cs:List Cd) (o:Option Addr) (n c:Nat):Prop where
 len:n=cs.length
 box:wr.heap[B]? =some (.cells #[.int .i64 key,.slice o n c,.int .i64 s] 25 (0,0))
 res:wr.heap[R]? =some (.cells #[.int .i64 0,.slice none 0 0,.int .i64 0] 25 (0,0))
 own:QaU wr C (.slice o n c) cs
 dr:Dr k w0 wr
theorem JS.draw {k B R C:Nat} {b wr:World} {key s:Int} {cs:List Cd} {o:Option Addr} {n c:Nat} {x:World} (h:JS k B R C b wr key s cs o n c) (i:isCur k x) (a:wr.grownBy x (some k)) (d:B≠k) (g:R≠k) (f:k < C):JS k B R C b x key s cs o n c:=
 ⟨h.len,Q0a a (KEq h.box) d h.box,Q0a a (KEq h.res) g h.res,Q3C h.own a f,h.dr.step i a⟩
theorem JS.below {k B R C:Nat} {b wr:World} {key s:Int} {cs:List Cd} {o:Option Addr} {n c:Nat} {x:World} (h:JS k B R C b wr key s cs o n c) (a:Below wr.heap.size wr x) (d:k < b.heap.size):JS k B R C b x key s cs o n c:=
 ⟨h.len,(a.block _ (KEq h.box)).trans h.box,(a.block _ (KEq h.res)).trans h.res,Q03 h.own a,h.dr.below d (a.mono h.dr.gr.size)⟩
theorem JS.set0 {k B R C:Nat} {a wr:World} {key s:Int} {cs:List Cd} {o:Option Addr} {n c:Nat} (h:JS k B R C a wr key s cs o n c) (f:k < a.heap.size) (b:a.heap.size<=B) (d:R≠B) (y:Int):JS k B R C a (wr.setCell ⟨B,0,none⟩ (.int .i64 y)) y s cs o n c:=
 ⟨h.len,Q05 h.box 0 _,Q20 h.res d,Q1E h.own h.box 0 _,h.dr.below f (KBq.setCell (p:=⟨B,0,none⟩) b _)⟩
theorem JS.set2 {k B R C:Nat} {a wr:World} {key s:Int} {cs:List Cd} {o:Option Addr} {n c:Nat} (h:JS k B R C a wr key s cs o n c) (f:k < a.heap.size) (b:a.heap.size<=B) (d:R≠B) (y:Int):JS k B R C a (wr.setCell ⟨B,2,none⟩ (.int .i64 y)) key y cs o n c:=
 ⟨h.len,Q05 h.box 2 _,Q20 h.res d,Q1E h.own h.box 2 _,h.dr.below f (KBq.setCell (p:=⟨B,2,none⟩) b _)⟩
theorem JS.done {k B C:Nat} {a wr:World} {key s:Int} {cs:List Cd} {o:Option Addr} {n c:Nat} (h:JS k B a.heap.size C a wr key s cs o n c) (f:k < a.heap.size) (d:a.heap.size<=C):InJm a.heap.size (setP wr a.heap.size (.int .i64 key) (.slice o n c) (.int .i64 s)).heap.size (setP wr a.heap.size (.int .i64 key) (.slice o n c) (.int .i64 s)) (jrn key (.slice o n c) s) ⟨key,cs,s⟩/\Dr k a (setP wr a.heap.size (.int .i64 key) (.slice o n c) (.int .i64 s)):=by
 have b:=Q05 h.res 0 (.int .i64 key);have i:=Q05 b 1 (.slice o n c);have g:=Q1E (Q1E (Q1E h.own h.res 0 (.int .i64 key)) b 1 (.slice o n c)) i 2 (.int .i64 s);exact⟨⟨_,rfl,InRow.mono (InRow.of g) d (Kaq _)⟩,h.dr.below f (Q0s KBq (Kaq _) _ _ _)⟩
theorem JS.push {k B R C:Nat} {d wr:World} {key s:Int} {cs:List Cd} {o:Option Addr} {n c:Nat} {f:World} {a i g:Int} {A:Option Addr} {l m:Nat} {O:Obj} (h:JS k B R C d wr key s cs o n c) (D:k < d.heap.size) (E:d.heap.size<=B) (F:R≠B) (L:d.heap.size<=C) (G:R < C) (H:l=n+1) (I:QaU f C (.slice A l m) (cs++[(a,i,g)])) (u:(wr.alloc O).grownBy f (Value.slice o n c).ownBlock):
  f.heap[B]? =some (.cells #[.int .i64 key,.slice o n c,.int .i64 s] 25 (0,0))/\JS k B R C d (f.setCell ⟨B,1,none⟩ (.slice A l m)) key s (cs++[(a,i,g)]) A l m:=by
 have j:Below wr.heap.size wr (wr.alloc O):=KBq.alloc (Kaq _) _;have v:=(KEq h.box);have w:=(KEq h.res);have J:=j.size
 have x:¬(some B=(Value.slice o n c).ownBlock):=fun e=>by
  rcases Q1R h.own h.box (show(77:TypeId)≠25 by decide)with r|r
  ·rw[r]at e;cases e
  ·exact r e.symm
 have y:¬(some R=(Value.slice o n c).ownBlock):=fun e=>by have:=(h.own.lt R e.symm).1;omega
 have b:=(u.block B (by omega) x).trans ((j.block B v).trans h.box);have z:=(u.block R (by omega) y).trans ((j.block R w).trans h.res);have t:Below d.heap.size wr f:=(j.mono h.dr.gr.size).grown u (by have:=h.dr.gr.size;omega) (fun q e=>by have:=(h.own.lt q e).1;omega);exact⟨b,⟨by simp[H,h.len],Q05 b 1 _,Q20 z F,Q1E I b 1 _,(h.dr.below D t).below D (KBq.setCell (p:=⟨B,1,none⟩) E _)⟩⟩
theorem Qbg (k:Nat) (w:World) (hc:isCur k w) (q:k < w.heap.size):
  Calls Tryz.prog 81 #[.pointer (some ⟨k,0,none⟩)] w fun e w'=> ∃v m,e=.returned v/\InJm w.heap.size w'.heap.size w' v m/\m.l.length<=11/\Dr k w w':=by
 obtain⟨V,N⟩:∃W,w.alloc (.cells #[.int .i64 0,.slice none 0 0,.int .i64 0] 25)=W:=⟨_,rfl⟩;have ah:=alb0v0v1 N;have J:=Q02 (show Dr k w V from⟨hc.below (ah.mono q),by rw[<-N];exact Q0N w _ k⟩);have ae:Hid _:=alx0v0v1 N;have p:=alz0v0v1 N;clear ah hc;go_enter Tryz.func81,Tryz.ntmps81;go_wp2_with fail;refine(Q7F k V J.out.cur (J.out.lt q)).mono ?_;rintro e R ⟨v,⟨key,cs,s⟩,rfl,⟨vl,rfl,C⟩,_,T,z⟩;obtain⟨o,c,e1,_⟩:=ownL.open (L:=Q3F) C.1;subst e1;dsimp only at C T ⊢;obtain⟨n,hn⟩:∃n,cs.length=n:=⟨_,rfl⟩;rw[hn]at C T ⊢;have ag:=Q02 C.1
 have ad:=Q02 (J.out.step z.cur z.gr);have af:=Q02 (Q0a z.gr p (by omega) ae.out);have ar:V.heap.size<=R.heap.size:=z.gr.size;have U:=Q02 hn;clear z C ae J hn;have P:Below R.heap.size R (R.alloc (.cells #[.int .i64 key,.slice o n c,.int .i64 s] 25)):=KBq.alloc (Kaq _) _;have M:=Q02 (show JS k R.heap.size w.heap.size V.heap.size w (R.alloc (.cells #[.int .i64 key,.slice o n c,.int .i64 s] 25)) key s cs o n c from⟨U.out.symm,World.alloc_heap_new R _,(P.block _ (by omega)).trans af.out,Q03 ag.out P,ad.out.below q (P.mono (by omega))⟩)
 clear P af ad ag;go_wp2_with fail;generalize (R.alloc (.cells #[.int .i64 key,.slice o n c,.int .i64 s] 25))=W2 at *;obtain⟨B,hB⟩:∃B,R.heap.size=B:=⟨_,rfl⟩;simp only[hB]at M ar ⊢
 have D:B≠k:=by omega
 have F:w.heap.size≠k:=by omega
 have aa:w.heap.size≠B:=by omega
 have ac:w.heap.size<=B:=by omega
 have E:k < V.heap.size:=by omega
 clear hB;refine(Q1s k 7 W2 M.out.dr.cur (by decide) (by decide)).mono ?_;rintro e I ⟨au,rfl,ai,ak⟩;have d:=Q02 (M.out.draw ai ak D F E);clear ai ak M
 cases au with
 |false=>
  have z0:I.cell? ⟨B,0,none⟩=some (.int .i64 key):=Q00 d.out.box 0 _ rfl;have z1:I.cell? ⟨B,1,none⟩=some (.slice o n c):=Q00 d.out.box 1 _ rfl;have z2:I.cell? ⟨B,2,none⟩=some (.int .i64 s):=Q00 d.out.box 2 _ rfl;have r0:I.cell? ⟨w.heap.size,0,none⟩=some (.int .i64 0):=Q00 d.out.res 0 _ rfl;have X:I.frozen? ⟨w.heap.size,0,none⟩=false:=Q01 d.out.res 0;have r1:I.cell? ⟨w.heap.size,1,none⟩=some (.slice none 0 0):=Q00 d.out.res 1 _ rfl;have Y:I.frozen? ⟨w.heap.size,1,none⟩=false:=Q01 d.out.res 1
  have r2:I.cell? ⟨w.heap.size,2,none⟩=some (.int .i64 0):=Q00 d.out.res 2 _ rfl;have Z:I.frozen? ⟨w.heap.size,2,none⟩=false:=Q01 d.out.res 2;have r:=Q02 (d.out.done q (KIq p));clear d;go_wp2;refine bodyPost_ret (v:=jrn key (.slice o n c) s) (by simp[results,Tryz.results81,go_sem,r0,r1,r2]) rfl ⟨_,⟨key,cs,s⟩,rfl,r.out.1,show cs.length<=11 by have:=U.out;omega,r.out.2⟩
 |true=>
  go_wp2_with fail;refine(Q0t k 3 I d.out.dr.cur (by decide) (by decide)).mono ?_;rintro e w4 ⟨x,rfl,ax,ay,aj,al⟩;have f:=Q02 (d.out.draw aj al D F E);clear aj al d
  by_cases e0:x=0
  ·subst e0
   have z1:w4.cell? ⟨B,1,none⟩=some (.slice o n c):=Q00 f.out.box 1 _ rfl;go_wp2_with fail;refine(Q2u k [-1,(n:Int)+1] w4 f.out.dr.cur (f.out.dr.lt q) (by simp) (by simp)).mono ?_;rintro e i ⟨y,_,rfl,u,A⟩;have j:=f.out.draw u A D F E;have b:=j.set2 q ac aa y;have y2:i.cell? ⟨B,2,none⟩=some (.int .i64 s):=Q00 j.box 2 _ rfl;have aq:i.frozen? ⟨B,2,none⟩=false:=Q01 j.box 2;have q0:(i.setCell ⟨B,2,none⟩ (.int .i64 y)).cell? ⟨B,0,none⟩=some (.int .i64 key):=Q00 b.box 0 _ rfl
   have q1:(i.setCell ⟨B,2,none⟩ (.int .i64 y)).cell? ⟨B,1,none⟩=some (.slice o n c):=Q00 b.box 1 _ rfl;have q2:(i.setCell ⟨B,2,none⟩ (.int .i64 y)).cell? ⟨B,2,none⟩=some (.int .i64 y):=Q00 b.box 2 _ rfl;have r0:(i.setCell ⟨B,2,none⟩ (.int .i64 y)).cell? ⟨w.heap.size,0,none⟩=some (.int .i64 0):=Q00 b.res 0 _ rfl;have X:(i.setCell ⟨B,2,none⟩ (.int .i64 y)).frozen? ⟨w.heap.size,0,none⟩=false:=Q01 b.res 0;have r1:(i.setCell ⟨B,2,none⟩ (.int .i64 y)).cell? ⟨w.heap.size,1,none⟩=some (.slice none 0 0):=Q00 b.res 1 _ rfl
   have Y:(i.setCell ⟨B,2,none⟩ (.int .i64 y)).frozen? ⟨w.heap.size,1,none⟩=false:=Q01 b.res 1;have r2:(i.setCell ⟨B,2,none⟩ (.int .i64 y)).cell? ⟨w.heap.size,2,none⟩=some (.int .i64 0):=Q00 b.res 2 _ rfl;have Z:(i.setCell ⟨B,2,none⟩ (.int .i64 y)).frozen? ⟨w.heap.size,2,none⟩=false:=Q01 b.res 2;have r:=Q02 (b.done q (KIq p));clear u A f j b;go_wp2;refine bodyPost_ret (v:=jrn key (.slice o n c) y) (by simp[results,Tryz.results81,go_sem,r0,r1,r2]) rfl ⟨_,⟨key,cs,y⟩,rfl,r.out.1,show cs.length<=11 by have:=U.out;omega,r.out.2⟩
  by_cases e1:x=1
  ·subst e1
   have z1:w4.cell? ⟨B,1,none⟩=some (.slice o n c):=Q00 f.out.box 1 _ rfl;have ao:Hid (isCur k w4.drew):=f.out.dr.cur.below (KHq KBq);have ap:Hid (k < w4.drew.heap.size):=f.out.dr.lt q;go_wp2
   go_region_law (first|(go_simp;go_at_call 72;refine(Q5q k _ ao.out ap.out).mono ?_;rintro e w7 ⟨a,i2,g,rfl,hd⟩;have am:w4.grownBy w7 (some k):=⟨hd.gr.os,hd.gr.tape,hd.gr.output,hd.gr.size,hd.gr.block⟩;have J7:=f.out.draw hd.cur am D F E;have y7:w7.cell? ⟨B,1,none⟩=some (.slice o n c):=Q00 J7.box 1 _ rfl;have av:∀O,(w7.alloc O).cell? ⟨B,1,none⟩=some (.slice o n c):=(fun O=>Q00 (J7.below (KBq.alloc (Kaq _) O) q).box 1 _ rfl);have aw:V.heap.size<=w7.heap.size:=(by have:=(KEq J7.box);omega);clear hd am;dsimp only)|(refine Q0n QdE rfl (.tmp 27) (.tmp 30) rfl V.heap.size (.slice o n c) cs rfl (World.ownsRow.alloc J7.own _) (some ⟨w7.heap.size,0,none⟩) 1 _ [(a,i2,g)] 1 rfl rfl (by simp) Q9a (by simp;have:=U.out;omega) (by simp;omega) ?_;intro v8 H ab an _;obtain⟨G,t,e8,_⟩:=ownL.open (L:=Q3F) ab;rw[List.length_append]at e8;rw[U.out]at e8;subst e8;have R8:=J7.push q ac aa (KIq p) p rfl ab an;have p8:H.cell? ⟨B,1,none⟩=some (.slice o n c):=Q00 R8.1 1 _ rfl;have f8:H.frozen? ⟨B,1,none⟩=false:=Q01 R8.1 1))
   all_goals (
    have h:=R8.2;have q0:(H.setCell ⟨B,1,none⟩ (.slice G (n+1) t)).cell? ⟨B,0,none⟩=some (.int .i64 key):=Q00 h.box 0 _ rfl;have q1:(H.setCell ⟨B,1,none⟩ (.slice G (n+1) t)).cell? ⟨B,1,none⟩=some (.slice G (n+1) t):=Q00 h.box 1 _ rfl;have q2:(H.setCell ⟨B,1,none⟩ (.slice G (n+1) t)).cell? ⟨B,2,none⟩=some (.int .i64 s):=Q00 h.box 2 _ rfl;have r0:(H.setCell ⟨B,1,none⟩ (.slice G (n+1) t)).cell? ⟨w.heap.size,0,none⟩=some (.int .i64 0):=Q00 h.res 0 _ rfl;have X:(H.setCell ⟨B,1,none⟩ (.slice G (n+1) t)).frozen? ⟨w.heap.size,0,none⟩=false:=Q01 h.res 0
    have r1:(H.setCell ⟨B,1,none⟩ (.slice G (n+1) t)).cell? ⟨w.heap.size,1,none⟩=some (.slice none 0 0):=Q00 h.res 1 _ rfl;have Y:(H.setCell ⟨B,1,none⟩ (.slice G (n+1) t)).frozen? ⟨w.heap.size,1,none⟩=false:=Q01 h.res 1;have r2:(H.setCell ⟨B,1,none⟩ (.slice G (n+1) t)).cell? ⟨w.heap.size,2,none⟩=some (.int .i64 0):=Q00 h.res 2 _ rfl;have Z:(H.setCell ⟨B,1,none⟩ (.slice G (n+1) t)).frozen? ⟨w.heap.size,2,none⟩=false:=Q01 h.res 2;have r:=Q02 (h.done q (KIq p));clear f h R8 ab an J7 y7 av z1;go_wp2
    refine bodyPost_ret (v:=jrn key (.slice G (n+1) t) s) (by simp[results,Tryz.results81,go_sem,r0,r1,r2]) rfl ⟨_,⟨key,cs++[(a,i2,g)],s⟩,rfl,r.out.1,show(cs++[(a,i2,g)]).length<=11 by rw[List.length_append,U.out];simp;omega,r.out.2⟩)
  ·go_wp2_with fail
   refine(Q2u k [-1,999999,1000000] w4 f.out.dr.cur (f.out.dr.lt q) (by decide) (by decide)).mono ?_;rintro e i ⟨y,_,rfl,u,A⟩;have j:=f.out.draw u A D F E;have b:=j.set0 q ac aa y;have y2:i.cell? ⟨B,0,none⟩=some (.int .i64 key):=Q00 j.box 0 _ rfl;have aq:i.frozen? ⟨B,0,none⟩=false:=Q01 j.box 0;have q0:(i.setCell ⟨B,0,none⟩ (.int .i64 y)).cell? ⟨B,0,none⟩=some (.int .i64 y):=Q00 b.box 0 _ rfl;have q1:(i.setCell ⟨B,0,none⟩ (.int .i64 y)).cell? ⟨B,1,none⟩=some (.slice o n c):=Q00 b.box 1 _ rfl
   have q2:(i.setCell ⟨B,0,none⟩ (.int .i64 y)).cell? ⟨B,2,none⟩=some (.int .i64 s):=Q00 b.box 2 _ rfl;have r0:(i.setCell ⟨B,0,none⟩ (.int .i64 y)).cell? ⟨w.heap.size,0,none⟩=some (.int .i64 0):=Q00 b.res 0 _ rfl;have X:(i.setCell ⟨B,0,none⟩ (.int .i64 y)).frozen? ⟨w.heap.size,0,none⟩=false:=Q01 b.res 0;have r1:(i.setCell ⟨B,0,none⟩ (.int .i64 y)).cell? ⟨w.heap.size,1,none⟩=some (.slice none 0 0):=Q00 b.res 1 _ rfl;have Y:(i.setCell ⟨B,0,none⟩ (.int .i64 y)).frozen? ⟨w.heap.size,1,none⟩=false:=Q01 b.res 1
   have r2:(i.setCell ⟨B,0,none⟩ (.int .i64 y)).cell? ⟨w.heap.size,2,none⟩=some (.int .i64 0):=Q00 b.res 2 _ rfl;have Z:(i.setCell ⟨B,0,none⟩ (.int .i64 y)).frozen? ⟨w.heap.size,2,none⟩=false:=Q01 b.res 2;have r:=Q02 (b.done q (KIq p));clear u A f j b;go_wp2;refine bodyPost_ret (v:=jrn y (.slice o n c) s) (by simp[results,Tryz.results81,go_sem,r0,r1,r2]) rfl ⟨_,⟨y,cs,s⟩,rfl,r.out.1,show cs.length<=11 by have:=U.out;omega,r.out.2⟩
def Q5C (lll:List (List (List Int))):Prop:=1<=lll.length/\lll.length<=3/\∀i,i < lll.length->(lll.getD i []).length=8/\∀j,((lll.getD i []).getD j []).length<=2
theorem QdJ (cs:List Cd):∀n,1<=(Q1f cs n).length
 |0=>by simp[Q1f]
 |n+1=>by rw[Q1f];simp
theorem Qb2 (key:Int) (R:List (List Bk)) (b:1<=R.length) (c:R.length<=3):Q5C (Q17 key R):=by
 refine⟨by simpa[Q17]using b,by simpa[Q17]using c,fun i hi=>?_⟩
 have a:i < R.length:=by simpa[Q17]using hi
 rw[Q2X key R i a];exact⟨Q1G _ _,fun j=>Q71 _ _ j⟩
theorem GTabs.draw {w c:World} {base k:Nat} {hs:List Hd} {R:List (List (List Int))} (h:GTabs w base hs R) (b:w.grownBy c (some k)) (g:k < base):GTabs c base hs R:=
 ⟨h.1,fun i hi=>by
  obtain⟨m,d,a,e,f,h2⟩:=h.2 i hi;refine⟨m,d,a,e,Q3C (L:=Q0E) f b g,h2.grown b (fun q l=>?_)⟩
  cases hob:(hv a q).ownBlock with
  |none=>exact .inl rfl
  |some j=>right;have:=((h2.row q l).lt j hob).1;intro e;simp at e;omega⟩
theorem QcS (k:Nat) (w:World) (hc:isCur k w) (I:k < w.heap.size):
  Calls Tryz.prog 134 #[.pointer (some ⟨k,0,none⟩)] w fun e w'=> ∃key l b hs i c2 m j,e=.returned (plv key (.slice i l.length c2) (.slice m b.length j))/\l.length<=100/\Q5C b/\Q1e w' w.heap.size (.slice i l.length c2) l/\ownL Q0E 51 w' w.heap.size (.slice m b.length j) hs/\GTabs w' w.heap.size hs b/\Dr k w w':=by
 obtain⟨W0,u⟩:∃W,w.alloc (.cells #[.int .i64 0,.slice none 0 0,.slice none 0 0] 29)=W:=⟨_,rfl⟩;have Z:=alb0v0v1 u;have q:=Q02 (show Dr k w W0 from⟨hc.below (Z.mono I),by rw[<-u];exact Q0N w _ k⟩);have T:Hid _:=alx0v0v1 u;have ae:=alz0v0v1 u;clear Z hc;go_enter Tryz.func134,Tryz.ntmps134;go_wp2_with fail;refine(Q7F k W0 q.out.cur (q.out.lt I)).mono ?_;rintro e w1 ⟨v,⟨key,cs,s⟩,rfl,⟨vl,rfl,z⟩,hj,B,h⟩;obtain⟨o,c,e1,_⟩:=ownL.open (L:=Q3F) z.1;subst e1;dsimp only at z B hj ⊢;obtain⟨⟨ab,hl,_,_⟩,D⟩:=And.intro (Q0K hj) (Q1y hj)
 have t:=Q02 (Q2P hj cs.length (by omega));obtain⟨W2,x⟩:∃W,w1.alloc (.cells #[.int .i64 key,.slice o cs.length c,.int .i64 s] 25)=W:=⟨_,rfl⟩;have g:=alb0v0v1 x;have aj:W0.heap.size<=w1.heap.size:=h.gr.size;have ak:=g.size;have J:=Q02 ((q.out.step h.cur h.gr).below I (g.mono (by omega)));have U:=Q02 ((g.block _ (by omega)).trans (Q0a h.gr ae (by omega) T.out));have f:=Q02 (Q4f key o c cs W2 (ownL.rds (L:=Q3F) (Q03 z.1 g)) ab hl D)
 have j0:W2.cell? ⟨w1.heap.size,0,none⟩=some (.int .i64 key):=by rw[<-x];simp[go_sem]
 have j1:W2.cell? ⟨w1.heap.size,1,none⟩=some (.slice o cs.length c):=by rw[<-x];simp[go_sem]
 clear h z T q g D hj;obtain⟨n,hn⟩:∃n,cs.length=n:=⟨_,rfl⟩;rw[hn]at x j1 f ⊢;have HN:=Q02 hn;obtain⟨d,A⟩:∃s,Q0i cs cs.length=s:=⟨_,rfl⟩;rw[hn]at A hl B;rw[A]at f;rw[hn,A]at t;obtain⟨rg,H⟩:∃s,Q1f cs n=s:=⟨_,rfl⟩;rw[H]at f;have G:=Q02 (show 1<=rg.length/\rg.length<=3 by rw[<-H];exact⟨QdJ cs n,Q81 cs n⟩);clear A H hn;go_wp2_with fail;refine(f.out).mono ?_;rintro e w3 ⟨oB,cB,oR,cR,hs,rfl,ac,ad,pt,al,y⟩;have F:=Q02 ac;have P:=Q02 ad;have N:=Q02 (Qfa pt);have M:=Q02 (J.out.below I (y.mono (by omega)))
 have V:=Q02 ((y.block _ (by omega)).trans U.out);have af:=y.size;clear ac ad pt y f U J;have E:=Q02 (Q7k key d rg (by have:=t.out.2;omega) G.out.2);have Y:=Q02 (Qb2 key rg G.out.1 G.out.2);obtain⟨b,C⟩:∃s,Q17 key rg=s:=⟨_,rfl⟩;rw[C]at N E Y;clear C;have X:=Q02 (ownL.rds (L:=Q16) F.out);have aa:=(fun e=>(InRow.cap (InRow.of F.out)) d.length cB (by rw[e]):oB=none->cB=0)
 have R:=Q02 (QbV key oB cB d oR cR b hs.length N.out.1 w3 X.out aa (by have:=t.out.2;omega) (RcR.mon.go (N.out.rc P.out) (Kcq _) (Kaq _)) (by omega) E.out.2.2.2.1 E.out.2.2.2.2);have O:=Q02 N.out.1;clear X aa;go_wp2_with fail;refine(R.out).mono ?_;rintro e p ⟨i,c2,m,j,hq,rfl,h1,h2,h3,y⟩;have a:=(y.block _ (by omega)).trans V.out;have am:=y.size;have r0:p.cell? ⟨w.heap.size,0,none⟩=some (.int .i64 0):=Q00 a 0 _ rfl;have ag:p.frozen? ⟨w.heap.size,0,none⟩=false:=Q01 a 0;have r1:p.cell? ⟨w.heap.size,1,none⟩=some (.slice none 0 0):=Q00 a 1 _ rfl
 have ah:p.frozen? ⟨w.heap.size,1,none⟩=false:=Q01 a 1;have r2:p.cell? ⟨w.heap.size,2,none⟩=some (.slice none 0 0):=Q00 a 2 _ rfl;have ai:p.frozen? ⟨w.heap.size,2,none⟩=false:=Q01 a 2
 have r:Hid (Q1e (setP p w.heap.size (.int .i64 key) (.slice i d.length c2) (.slice m hs.length j)) w.heap.size (.slice i d.length c2) d/\ownL Q0E 51 (setP p w.heap.size (.int .i64 key) (.slice i d.length c2) (.slice m hs.length j)) w.heap.size (.slice m hs.length j) hq/\GTabs (setP p w.heap.size (.int .i64 key) (.slice i d.length c2) (.slice m hs.length j)) w.heap.size hq b/\Dr k w (setP p w.heap.size (.int .i64 key) (.slice i d.length c2) (.slice m hs.length j))):=by
  have g1:=Q05 a 0 (.int .i64 key);have g2:=Q05 g1 1 (.slice i d.length c2);exact⟨Q04 (Q0p (Q0p (Q0p h1 a Q8b 0 _) g1 Q8b 1 _) g2 Q8b 2 _) (by omega),Q04 (Q0p (Q0p (Q0p h2 a Qa4 0 _) g1 Qa4 1 _) g2 Qa4 2 _) (by omega),GTabs.mono (((h3.putB a 0 _).putB g1 1 _).putB g2 2 _) (by omega),(M.out.below I (y.mono (by omega))).below I (Q0s KBq (Kaq _) _ _ _)⟩
 clear h1 h2 h3 y a R F P N M V;go_wp2;refine bodyPost_ret (v:=plv key (.slice i d.length c2) (.slice m hs.length j)) (by simp[results,Tryz.results134,go_sem,r0,r1,r2]) rfl ⟨key,d,b,hq,i,c2,m,j,by rw[<-O.out],t.out.2,Y.out,r.out.1,by rw[<-O.out];exact r.out.2.1,r.out.2.2.1,r.out.2.2.2⟩
theorem Q4n {key:Int} {l:List Bk} {a:List (List (List Int))} (k:l.length<=1000) (f:a.length<=3) (h:∀i,i < a.length->(a.getD i []).length=8/\∀j,((a.getD i []).getD j []).length<=2):Q2q ⟨key,l,a⟩:=by
 refine⟨by dsimp only;omega,by dsimp only;omega, ?_,fun i hi=>by dsimp only at *;rw[(h i hi).1];decide,fun i hi j g=>by have:=(h i hi).2 j;dsimp only;omega⟩;dsimp only
 have b:∀i,Qbu a i<=16:=fun i=>by
  by_cases h':i < a.length
  ·have c:=Q55 (Qih (a.getD i [])) 2 (fun j=>(h i h').2 j) (a.getD i []).length
   have d:=(h i h').1
   show QdI (Qih (a.getD i [])) (a.getD i []).length<=16
   rw[d]at c ⊢;omega
  ·unfold Qbu;rw[KFq,List.getElem?_eq_none (by omega)];exact Kcq _
 have c:=Q55 (Qbu a) 16 b a.length
 show QdI (Qbu a) a.length<=1048576
 omega
theorem Qbw {n:Nat} {α:Type} {d:α} {Q:Nat->α->Prop} (h:∀i,i < n->∃x,Q i x):∃a:List α,a.length=n/\∀i,i < n->Q i (a.getD i d):=by
 induction n with
 |zero=>exact⟨[],rfl,fun i hi=>absurd hi (KMq _)⟩
 |succ n ih=>
  obtain⟨a,b,c⟩:=ih (fun i hi=>h i (by omega));obtain⟨y,f⟩:=h n (by omega);refine⟨a++[y],by simp[b],fun i hi=>?_⟩
  by_cases hi':i < n
  ·rw[KFq,List.getElem?_append_left (by omega),<-KFq];exact c i hi'
  ·have e:i=n:=by omega
   subst e
   have:(a++[y]).getD i d=y:=by rw[<-b];simp
   rw[this];exact f
theorem Qfj {hs:List Hd} {j q:Nat} {x:Hd} (h:q≠j):hv (hs.set j x) q=hv hs q:=by
 unfold hv;rw[KFq,List.getElem?_set_ne (Ne.symm h),<-KFq]
theorem QdT {hs:List Hd} {j:Nat} {x:Hd} (h:j < hs.length):hv (hs.set j x) j=.slice x.1 x.2.1 x.2.2:=by
 unfold hv;rw[KFq,List.getElem?_set_self h];rfl
theorem QeG (hs:List Hd) (j:Nat) (x:Hd):(hs.set j x).flatMap Q0E.cs=(hs.flatMap Q0E.cs).set j (.slice x.1 x.2.1 x.2.2):=by
 have e:∀l:List Hd,l.flatMap Q0E.cs=l.map (fun x=>Value.slice x.1 x.2.1 x.2.2):=fun l=>by
  induction l with
  |nil=>rfl
  |cons a l ih=>rw[List.flatMap_cons,ih];rfl
 rw[e,e,List.map_set]
theorem Qj8:(51:TypeId)≠47:=by decide
theorem Qja:(119:TypeId)≠47:=by decide
theorem Qfe {s:World} {base u r n Z i:Nat} {P:Nat} {Y:Option Addr} {hs:List Hd} {c:List (List (List Int))} {x y:Int} (h:GTabs s base hs c) (U:ownL Q0E 51 s base (.slice Y n P) hs) (w:Q5C c) (hi:i < c.length) (he:hv hs i=.slice (some ⟨u,0,none⟩) 8 Z) (V:Q9U s base (.slice (some ⟨r,0,none⟩) 2 2) [x,y]):
  ∃m,Q5C m/\m.length=c.length/\RcR base (s.setCell ⟨u,2,none⟩ (.slice (some ⟨r,0,none⟩) 2 2)).heap.size (s.setCell ⟨u,2,none⟩ (.slice (some ⟨r,0,none⟩) 2 2)) (.slice Y n P) m:=by
 obtain⟨W,I⟩:∃W,s.setCell ⟨u,2,none⟩ (.slice (some ⟨r,0,none⟩) 2 2)=W:=⟨_,rfl⟩;obtain⟨o3,H,ab,e3,J,k2⟩:=h.2 i hi
 have R:hv hs i=.slice o3 (c.getD i []).length H:=by unfold hv;rw[e3]
 have C:=(w.2.2 i hi).1;rw[he,C]at R;injection R with E q2 q3;subst E q3;rw[C]at J
 have A:s.grownBy W (some u):=by rw[<-I];exact Q0H s u 2 _
 have b:∀v l,Q9U s base v l->Q9U W base v l:=fun v l hv=>World.ownsRow.kept hv A (Q2n hv J QgY)
 have key:∀q,q < c.length->∃t:List (List Int),(t.length=8/\∀j,(t.getD j []).length<=2)/\RcT base W.heap.size W (hv hs q) t:=by
  intro q D;obtain⟨O,F,f,e5,G,B⟩:=h.2 q D;have p:=w.2.2 q D
  have T:hv hs q=.slice O (c.getD q []).length F:=by unfold hv;rw[e5]
  rw[p.1]at G B T;rw[T];have a:=B.len
  by_cases hb:O=some ⟨u,0,none⟩
  ·subst hb
   have M:s.ownsRow base 47 Q0E.k (.slice (some ⟨u,0,none⟩) 8 F) 8 (f.flatMap Q0E.cs):=by have h:=G;unfold ownL at h;rw[a]at h;exact h
   have X:=(World.ownsRow.stored M 2 (.slice (some ⟨r,0,none⟩) 2 2)).1;rw[I,<-QeG f 2 (some ⟨r,0,none⟩,2,2)]at X
   have N:ownL Q0E 47 W base (.slice (some ⟨u,0,none⟩) 8 F) (f.set 2 (some ⟨r,0,none⟩,2,2)):=by
    unfold ownL;rw[List.length_set,a];exact X
   refine⟨(c.getD q []).set 2 [x,y],⟨by rw[List.length_set];exact p.1,fun j=>?_⟩,⟨f.set 2 (some ⟨r,0,none⟩,2,2),by rw[List.length_set,List.length_set,p.1];exact a, ?_,fun j g=>?_⟩⟩
   ·by_cases g:j=2
    ·subst g;rw[KFq,List.getElem?_set_self (by rw[p.1];decide)];simp
    ·rw[KFq,List.getElem?_set_ne (Ne.symm g),<-KFq];exact p.2 j
   ·have:=InRow.ri (L:=Q0E) (InRow.of N);simpa[a]using this
   ·rw[List.length_set,p.1]at g
    by_cases hj2:j=2
    ·subst hj2
     rw[QdT (by omega),KFq,List.getElem?_set_self (by rw[p.1];decide)];exact⟨InRow.ri (L:=Q2m) (InRow.of (b _ _ V)),InRow.cap (InRow.of (b _ _ V))⟩
    ·rw[Qfj hj2,KFq,List.getElem?_set_ne (Ne.symm hj2),<-KFq]
     exact⟨InRow.ri (L:=Q2m) (InRow.of (b _ _ (B.row j g))),InRow.cap (InRow.of (b _ _ (B.row j g)))⟩
  ·have N:ownL Q0E 47 W base (.slice O 8 F) f:=by
    refine World.ownsRow.kept G A ?_;obtain⟨g5,aa,E⟩:=Q2S G (by rw[a];decide);injection E with E _ _
    ·subst E;right;intro e;simp[Value.ownBlock]at e;exact hb (by rw[e])
   refine⟨c.getD q [],p,⟨f,by rw[p.1];exact a, ?_,fun j g=>?_⟩⟩
   ·have:=InRow.ri (L:=Q0E) (InRow.of N);simpa[a]using this
   ·rw[p.1]at g
    exact⟨InRow.ri (L:=Q2m) (InRow.of (b _ _ (B.row j g))),InRow.cap (InRow.of (b _ _ (B.row j g)))⟩
 obtain⟨ts,z,D⟩:=Qbw (d:=([]:List (List Int))) key;rw[I];refine⟨ts,⟨by rw[z];exact w.1,by rw[z];exact w.2.1,fun j g=>(D j (by omega)).1⟩,z,⟨hs,by rw[z];exact h.1, ?_,fun j g=>(D j (by omega)).2⟩⟩;exact InRow.ri (L:=Q0E) (InRow.of (World.ownsRow.kept U A (Q2n U J Qj8)))
structure PS (k B R C:Nat) (w0 wr:World) (key:Int) (l:List Bk) (lll:List (List (List Int))) (hs:List Hd) (o2:Option Addr) (nb c2:Nat) (oQ:Option Addr) (n cQ:Nat):Prop where
 len:nb=l.length
 box:wr.heap[B]? =some (.cells #[.int .i64 key,.slice o2 nb c2,.slice oQ n cQ] 29 (0,0))
 res:wr.heap[R]? =some (.cells #[.int .i64 0,.slice none 0 0,.slice none 0 0] 29 (0,0))
 bk:Q1e wr C (.slice o2 nb c2) l
 ow:ownL Q0E 51 wr C (.slice oQ n cQ) hs
 gt:GTabs wr C hs lll
 dr:Dr k w0 wr
theorem PS.draw {k B R C:Nat} {j wr:World} {key:Int} {l:List Bk} {b:List (List (List Int))} {hs:List Hd} {g i:Option Addr} {f c2 n d:Nat} {x:World} (h:PS k B R C j wr key l b hs g f c2 i n d) (q:isCur k x) (a:wr.grownBy x (some k)) (m:B≠k) (p:R≠k) (c:k < C):PS k B R C j x key l b hs g f c2 i n d:=
 ⟨h.len,Q0a a (KEq h.box) m h.box,Q0a a (KEq h.res) p h.res,Q3C h.bk a c,Q3C (L:=Q0E) h.ow a c,h.gt.draw a c,h.dr.step q a⟩
theorem PS.below {k B R C:Nat} {c wr:World} {key:Int} {l:List Bk} {b:List (List (List Int))} {hs:List Hd} {g i:Option Addr} {f c2 n d:Nat} {x:World} (h:PS k B R C c wr key l b hs g f c2 i n d) (a:Below wr.heap.size wr x) (j:k < c.heap.size):PS k B R C c x key l b hs g f c2 i n d:=
 ⟨h.len,(a.block _ (KEq h.box)).trans h.box,(a.block _ (KEq h.res)).trans h.res,Q03 h.bk a,Q03 h.ow a,h.gt.kept a,h.dr.below j (a.mono h.dr.gr.size)⟩
structure PE (k B R C:Nat) (w0 wr:World) (v0 v1 v2:Value) (m:Pm):Prop where
 box:wr.heap[B]? =some (.cells #[v0,v1,v2] 29 (0,0))
 res:wr.heap[R]? =some (.cells #[.int .i64 0,.slice none 0 0,.slice none 0 0] 29 (0,0))
 rc:RcPm C wr.heap.size wr (.agg #[v0,v1,v2]) m
 fit:Q2q m
 dr:Dr k w0 wr
theorem PE.done {k B C:Nat} {a wr:World} {b c d:Value} {m:Pm} (h:PE k B a.heap.size C a wr b c d m) (g:k < a.heap.size) (f:a.heap.size < C):RcPm a.heap.size (setP wr a.heap.size b c d).heap.size (setP wr a.heap.size b c d) (.agg #[b,c,d]) m/\Q2q m/\Dr k a (setP wr a.heap.size b c d):=
 ⟨by rw[Q2O];exact(h.rc.step (Q33 wr a.heap.size b c d) (.inl f)).mono (KIq f) (Kaq _),h.fit,h.dr.below g (Q0s KBq (Kaq _) _ _ _)⟩
theorem PS.end0 {k B R C:Nat} {i wr:World} {key:Int} {l:List Bk} {a:List (List (List Int))} {hs:List Hd} {f g:Option Addr} {d c2 n c:Nat} (h:PS k B R C i wr key l a hs f d c2 g n c) (b:Q5C a) (j:l.length<=1000):PE k B R C i wr (.int .i64 key) (.slice f d c2) (.slice g n c) ⟨key,l,a⟩:=⟨h.box,h.res,Q70 h.len h.bk h.ow h.gt,Q4n j b.2.1 b.2.2,h.dr⟩
theorem PS.key {k B R C:Nat} {c wr:World} {key:Int} {l:List Bk} {a:List (List (List Int))} {hs:List Hd} {g i:Option Addr} {f c2 n d:Nat} (h:PS k B R C c wr key l a hs g f c2 i n d) (b:Q5C a) (r:l.length<=1000) (q:k < c.heap.size) (j:c.heap.size<=B) (m:R≠B) (y:Int):PE k B R C c (wr.setCell ⟨B,0,none⟩ (.int .i64 y)) (.int .i64 y) (.slice g f c2) (.slice i n d) ⟨y,l,a⟩:=
 ⟨Q05 h.box 0 _,Q20 h.res m,Q70 h.len (Q0p h.bk h.box Q8b 0 _) (Q0p h.ow h.box Qa4 0 _) (h.gt.putB h.box 0 _),Q4n r b.2.1 b.2.2,h.dr.below q (KBq.setCell (p:=⟨B,0,none⟩) j _)⟩
theorem PS.backs {k B R C:Nat} {d wr:World} {key:Int} {l:List Bk} {a:List (List (List Int))} {hs:List Hd} {w m:Option Addr} {v c2 n j:Nat} {L:List Bk} {g:Option Addr} {f c i:Nat} (h:PS k B R C d wr key l a hs w v c2 m n j) (b:Q5C a) (x:c<=7) (hm:c=L.length) (t:k < d.heap.size) (q:d.heap.size<=B) (s:R≠B) (r:C<=i) (u:Q1e wr i (.slice g c f) L):PE k B R C d (wr.setCell ⟨B,1,none⟩ (.slice g c f)) (.int .i64 key) (.slice g c f) (.slice m n j) ⟨key,L,a⟩:=
 ⟨Q05 h.box 1 _,Q20 h.res s,Q70 hm (Q04 (Q0p u h.box Q8b 1 _) r) (Q0p h.ow h.box Qa4 1 _) (h.gt.putB h.box 1 _),Q4n (by omega) b.2.1 b.2.2,h.dr.below t (KBq.setCell (p:=⟨B,1,none⟩) q _)⟩
theorem PS.nil {k B R C:Nat} {a wr:World} {key:Int} {l:List Bk} {b:List (List (List Int))} {hs:List Hd} {d r:Option Addr} {c c2 n f:Nat} (h:PS k B R C a wr key l b hs d c c2 r n f) (q:l.length<=1000) (m:k < a.heap.size) (g:a.heap.size<=B) (j:R≠B):PE k B R C a (wr.setCell ⟨B,2,none⟩ (.slice none 0 0)) (.int .i64 key) (.slice d c c2) (.slice none 0 0) ⟨key,l,[]⟩:=
 ⟨Q05 h.box 2 _,Q20 h.res j,QdY h.len (Q0p h.bk h.box Q8b 2 _),Q4n q (by simp) (fun i hi=>absurd hi (KMq _)),h.dr.below m (KBq.setCell (p:=⟨B,2,none⟩) g _)⟩
theorem PS.bend {k B R C:Nat} {g wr:World} {key:Int} {l:List Bk} {b:List (List (List Int))} {hs:List Hd} {D E:Option Addr} {A c2 n v:Nat} {a r F i:Nat} {x y:Int} (h:PS k B R C g wr key l b hs D A c2 E n v) (d:Q5C b) (J:l.length<=1000) (I:k < g.heap.size) (P:g.heap.size<=C) (hi:i < b.length) (z:hv hs i=.slice (some ⟨a,0,none⟩) 8 F) (L:Q9U wr C (.slice (some ⟨r,0,none⟩) 2 2) [x,y]) (q:a≠B) (s:a≠R) (H:C<=a):
  ∃m,PE k B R C g (wr.setCell ⟨a,2,none⟩ (.slice (some ⟨r,0,none⟩) 2 2)) (.int .i64 key) (.slice D A c2) (.slice E n v) m:=by
 obtain⟨f,s1,s2,s3⟩:=Qfe h.gt h.ow d hi z L;obtain⟨O,j,M,G,N,T⟩:=h.gt.2 i hi
 have w:hv hs i=.slice O (b.getD i []).length j:=by unfold hv;rw[G]
 rw[z,(d.2.2 i hi).1]at w;injection w with q1 q2 q3;subst q1 q3;have t:wr.grownBy (wr.setCell ⟨a,2,none⟩ (.slice (some ⟨r,0,none⟩) 2 2)) (some a):=Q0H wr a 2 _;have c:=World.ownsRow.kept h.bk t (Q2n h.bk N Qja);have u:=h.len;subst u;refine⟨⟨key,l,f⟩,Q20 h.box (Ne.symm q),Q20 h.res (Ne.symm s),⟨_,_,rfl,InRow.ri (InRow.of c),InRow.cap (InRow.of c),s3,InRow.cap (InRow.of h.ow)⟩,Q4n J s1.2.1 s1.2.2,h.dr.below I (KBq.setCell (p:=⟨a,2,none⟩) (show g.heap.size<=a by omega) _)⟩
theorem QfL (w:World) (x y:Int):Q9U (w.alloc (.cells #[.int .i64 x,.int .i64 y] 3)) w.heap.size (.slice (some ⟨w.heap.size,0,none⟩) 2 2) [x,y]:=⟨by simp[Q2m],.inr ⟨w.heap.size,2,#[.int .i64 x,.int .i64 y],rfl,Kaq _,heap_alloc_new w _,by simp,by decide,by simp[Q2m],by simp[Q2m]⟩⟩
theorem Q7h (k:Nat) (b:List Int) (w:World) (j:isCur k w) (l:k < w.heap.size) (h:0 < b.length) (i:b.length<=1000):
  Calls Tryz.prog 55 #[.pointer (some ⟨k,0,none⟩),.slice (some ⟨w.heap.size,0,none⟩) b.length b.length] (w.alloc (.cells (b.map (Value.int .i64)).toArray 3)).drew fun e d=> ∃x,x∈b/\e=.returned (.int .i64 x)/\isCur k d/\w.grownBy d (some k):=by
 refine(Q1H k w.heap.size b _ ((j.alloc l _).below (KHq KBq)) (by simp) (by omega) h i (fun q c=>?_)).mono ?_
 ·refine Q00 (World.alloc_heap_new w _) q _ ?_
  rw[List.getElem?_toArray,List.getElem?_map,KGq c,KFq,KGq c]
  rfl
 ·rintro e d ⟨q,c,rfl,f,a⟩
  have g:(w.alloc (.cells (b.map (Value.int .i64)).toArray 3)).grownBy d (some k):=⟨a.os,a.tape,a.output,a.size,a.block⟩;refine⟨_, ?_,rfl,f,Q0m (Q0N w _ k) g⟩;rw[KFq,KGq c];exact List.getElem_mem c
theorem QeZ {k B R C:Nat} {q wr:World} {key:Int} {l:List Bk} {a:List (List (List Int))} {hs:List Hd} {p c:Option Addr} {m c2 n b:Nat} {x:World} (h:PS k B R C q wr key l a hs p m c2 c n b) (i:isCur k x) (j:wr.grownBy x (some k)) (d:B≠k) (g:R≠k) (f:k < C):x.cell? ⟨B,2,none⟩=some (.slice c n b):=Q00 (h.draw i j d g f).box 2 _ rfl
theorem Qeh {k B R C:Nat} {u wr:World} {key:Int} {l:List Bk} {a:List (List (List Int))} {hs:List Hd} {t:Option Addr} {s c2 n f:Nat} {x:World} {g i d c:Nat} (h:PS k B R C u wr key l a hs t s c2 (some ⟨g,0,none⟩) n f) (q:isCur k x) (r:wr.grownBy x (some k)) (j:B≠k) (p:R≠k) (m:k < C) (hi:i < a.length) (b:hv hs i=.slice (some ⟨d,0,none⟩) 8 c):x.cell? ⟨g,i,none⟩=some (.slice (some ⟨d,0,none⟩) 8 c):=by
 have h2:=h.draw q r j p m;rw[<-b];exact Q2T h2.ow i (by rw[h2.gt.1];exact hi)
theorem Qes {wr:World} {B g a i n c b:Nat} (f:a≠B) (h:a≠g) (d:∀O,(wr.alloc O).cell? ⟨B,2,none⟩=some (.slice (some ⟨g,0,none⟩) n c)) (h2:∀O,(wr.alloc O).cell? ⟨g,i,none⟩=some (.slice (some ⟨a,0,none⟩) 8 b)) (O:Obj) (v:Value):((wr.alloc O).setCell ⟨a,2,none⟩ v).cell? ⟨B,2,none⟩=some (.slice (some ⟨g,0,none⟩) n c)/\((wr.alloc O).setCell ⟨a,2,none⟩ v).cell? ⟨g,i,none⟩=some (.slice (some ⟨a,0,none⟩) 8 b):=
 ⟨(World.cell?_setCell_far _ _ _ _ f).trans (d O),(World.cell?_setCell_far _ _ _ _ h).trans (h2 O)⟩
theorem Qeq {k B R C:Nat} {v wr:World} {key:Int} {l:List Bk} {b:List (List (List Int))} {hs:List Hd} {H:Option Addr} {G c2 n y g i c w:Nat} (h:PS k B R C v wr key l b hs H G c2 (some ⟨g,0,none⟩) n y) (hi:i < b.length) (f:hv hs i=.slice (some ⟨c,0,none⟩) 8 w) (q:Q5C b) (j:l.length<=1000) (L:k < v.heap.size) (M:v.heap.size<=C) (E:c≠B) (F:c≠R) (t:C<=c) (x:Int):
  (∀O,(wr.alloc O).cell? ⟨B,2,none⟩=some (.slice (some ⟨g,0,none⟩) n y))/\(∀O,(wr.alloc O).cell? ⟨g,i,none⟩=some (.slice (some ⟨c,0,none⟩) 8 w))/\(∃u,(wr.alloc (.cells #[.int .i64 x,.int .i64 1] 3)).cell? ⟨c,2,none⟩=some u)/\(∀O,(wr.alloc O).frozen? ⟨c,2,none⟩=false)/\Hid (∃m,PE k B R C v ((wr.alloc (.cells #[.int .i64 x,.int .i64 1] 3)).setCell ⟨c,2,none⟩ (.slice (some ⟨wr.heap.size,0,none⟩) 2 2)) (.int .i64 key) (.slice H G c2) (.slice (some ⟨g,0,none⟩) n y) m):=by
 have s:∀O,PS k B R C v (wr.alloc O) key l b hs H G c2 (some ⟨g,0,none⟩) n y:=fun O=>h.below (KBq.alloc (Kaq _) O) L
 have J:∀O,∃a:List Hd,a.length=8/\(wr.alloc O).ownsRow C 47 Q0E.k (.slice (some ⟨c,0,none⟩) 8 w) 8 (a.flatMap Q0E.cs):=fun O=>by
  obtain⟨I,p,a,A,d,z⟩:=(s O).gt.2 i hi
  have r:hv hs i=.slice I (b.getD i []).length p:=by unfold hv;rw[A]
  rw[f,(q.2.2 i hi).1]at r;injection r with q1 q2 q3;subst q1 q3;have j:=z.len;rw[(q.2.2 i hi).1]at j d;unfold ownL at d;rw[j]at d;exact⟨a,j,d⟩
 refine⟨fun O=>Q00 (s O).box 2 _ rfl,fun O=>by rw[<-f];exact Q2T (s O).ow i (by rw[(s O).gt.1];exact hi), ?_,fun O=>?_, ?_⟩
 ·obtain⟨a,j,d⟩:=J (.cells #[.int .i64 x,.int .i64 1] 3)
  have z:ownL Q0E 47 (wr.alloc (.cells #[.int .i64 x,.int .i64 1] 3)) C (.slice (some ⟨c,0,none⟩) 8 w) a:=by unfold ownL;rw[j];exact d
  exact⟨_,Q2T z 2 (by omega)⟩
 ·obtain⟨a,j,d⟩:=J O
  exact World.ownsRow.frozenAt d 2
 ·have D:C<=wr.heap.size:=Kdq t (by obtain⟨I,p,a,A,d,z⟩:=h.gt.2 i hi;have r:hv hs i=.slice I (b.getD i []).length p:=(by unfold hv;rw[A]);rw[f]at r;injection r with q1 _ _;subst q1;exact KIq (d.lt c rfl).2)
  exact(s _).bend q j L M hi f (Q04 (QfL wr x 1) D) E F t
theorem Qd0 (k:Nat) (w:World) (hc:isCur k w) (J:k < w.heap.size):
  Calls Tryz.prog 82 #[.pointer (some ⟨k,0,none⟩)] w fun e w'=> ∃v m,e=.returned v/\RcPm w.heap.size w'.heap.size w' v m/\Q2q m/\Dr k w w':=by
 obtain⟨W0,ap⟩:∃W,w.alloc (.cells #[.int .i64 0,.slice none 0 0,.slice none 0 0] 29)=W:=⟨_,rfl⟩;have aH:=alb0v0v1 ap;have an:=Q02 (show Dr k w W0 from⟨hc.below (aH.mono J),by rw[<-ap];exact Q0N w _ k⟩);have aF:Hid _:=alx0v0v1 ap;have F:=alz0v0v1 ap;clear aH hc;go_enter Tryz.func82,Tryz.ntmps82;go_wp2_with fail;refine(QcS k W0 an.out.cur (an.out.lt J)).mono ?_;rintro e w1 ⟨key,l,aC,hs,U,c2,oQ,u,rfl,az,ar,aD,aE,aM,ak⟩;obtain⟨T,aq⟩:∃n,l.length=n:=⟨_,rfl⟩;obtain⟨n,hn⟩:∃n,aC.length=n:=⟨_,rfl⟩;rw[aq]at aD ⊢;rw[hn]at aE ⊢;have G:=Q02 ar;have aU:=Q02 aq
 have HN:=Q02 hn
 have hL:l.length<=1000:=by omega
 have HL:=Q02 hL
 have aX:1<=n:=by rw[<-hn];exact ar.1
 have aY:n<=3:=by rw[<-hn];exact ar.2.1
 have aO:W0.heap.size<=w1.heap.size:=ak.gr.size;have ag:Below w1.heap.size w1 (w1.alloc (.cells #[.int .i64 key,.slice U T c2,.slice oQ n u] 29)):=KBq.alloc (Kaq _) _;have ao:=Q02 (show PS k w1.heap.size w.heap.size W0.heap.size w (w1.alloc (.cells #[.int .i64 key,.slice U T c2,.slice oQ n u] 29)) key l aC hs U T c2 oQ n u from⟨aq.symm,World.alloc_heap_new w1 _,(ag.block _ (by omega)).trans (Q0a ak.gr F (by omega) aF.out),Q03 aD ag,Q03 aE ag,aM.kept ag,(an.out.step ak.cur ak.gr).below J (ag.mono (by omega))⟩)
 clear ag aD aE aM ak aF an aq hn ar hL az;go_wp2_with fail;generalize (w1.alloc (.cells #[.int .i64 key,.slice U T c2,.slice oQ n u] 29))=W2 at *;obtain⟨B,hB⟩:∃B,w1.heap.size=B:=⟨_,rfl⟩;simp only[hB]at ao aO ⊢
 have z:B≠k:=by omega
 have C:w.heap.size≠k:=by omega
 have aw:w.heap.size≠B:=by omega
 have aB:w.heap.size<=B:=by omega
 have A:k < W0.heap.size:=by omega
 clear hB;refine(Q1s k 8 W2 ao.out.dr.cur (by decide) (by decide)).mono ?_;rintro e w3 ⟨aT,rfl,aI,aK⟩;have ah:=Q02 (ao.out.draw aI aK z C A);clear aI aK ao
 cases aT with
 |false=>
  have d:=Q02 (ah.out.end0 G.out HL.out);have z0:w3.cell? ⟨B,0,none⟩=some (.int .i64 key):=Q00 d.out.box 0 _ rfl;have z1:w3.cell? ⟨B,1,none⟩=some (.slice U T c2):=Q00 d.out.box 1 _ rfl;have z2:w3.cell? ⟨B,2,none⟩=some (.slice oQ n u):=Q00 d.out.box 2 _ rfl;have r0:w3.cell? ⟨w.heap.size,0,none⟩=some (.int .i64 0):=Q00 d.out.res 0 _ rfl;have ad:w3.frozen? ⟨w.heap.size,0,none⟩=false:=Q01 d.out.res 0;have r1:w3.cell? ⟨w.heap.size,1,none⟩=some (.slice none 0 0):=Q00 d.out.res 1 _ rfl;have ae:w3.frozen? ⟨w.heap.size,1,none⟩=false:=Q01 d.out.res 1
  have r2:w3.cell? ⟨w.heap.size,2,none⟩=some (.slice none 0 0):=Q00 d.out.res 2 _ rfl;have af:w3.frozen? ⟨w.heap.size,2,none⟩=false:=Q01 d.out.res 2;have t:=Q02 (d.out.done J F);clear ah d;go_wp2;refine bodyPost_ret (v:=.agg #[.int .i64 key,.slice U T c2,.slice oQ n u]) (by simp[results,Tryz.results82,go_sem,r0,r1,r2]) rfl ⟨_,_,rfl,t.out.1,t.out.2.1,t.out.2.2⟩
 |true=>
  go_wp2_with fail;refine(Q0t k 4 w3 ah.out.dr.cur (by decide) (by decide)).mono ?_;rintro e j ⟨x,rfl,a0,a1,aJ,aL⟩;have b:=Q02 (ah.out.draw aJ aL z C A);clear aJ aL ah
  by_cases e0:x=0
  ·subst e0
   go_wp2_with fail;refine(Q2u k [-1,1000000,3] j b.out.dr.cur (b.out.dr.lt J) (by simp) (by simp)).mono ?_;rintro e a ⟨y,_,rfl,p,q⟩;have s:=Q02 (b.out.draw p q z C A);have d:=Q02 (s.out.key G.out HL.out J aB aw y);have y2:a.cell? ⟨B,0,none⟩=some (.int .i64 key):=Q00 s.out.box 0 _ rfl;have aG:a.frozen? ⟨B,0,none⟩=false:=Q01 s.out.box 0;have q0:(a.setCell ⟨B,0,none⟩ (.int .i64 y)).cell? ⟨B,0,none⟩=some (.int .i64 y):=Q00 d.out.box 0 _ rfl;have q1:(a.setCell ⟨B,0,none⟩ (.int .i64 y)).cell? ⟨B,1,none⟩=some (.slice U T c2):=Q00 d.out.box 1 _ rfl
   have q2:(a.setCell ⟨B,0,none⟩ (.int .i64 y)).cell? ⟨B,2,none⟩=some (.slice oQ n u):=Q00 d.out.box 2 _ rfl;have r0:(a.setCell ⟨B,0,none⟩ (.int .i64 y)).cell? ⟨w.heap.size,0,none⟩=some (.int .i64 0):=Q00 d.out.res 0 _ rfl;have ad:(a.setCell ⟨B,0,none⟩ (.int .i64 y)).frozen? ⟨w.heap.size,0,none⟩=false:=Q01 d.out.res 0;have r1:(a.setCell ⟨B,0,none⟩ (.int .i64 y)).cell? ⟨w.heap.size,1,none⟩=some (.slice none 0 0):=Q00 d.out.res 1 _ rfl;have ae:(a.setCell ⟨B,0,none⟩ (.int .i64 y)).frozen? ⟨w.heap.size,1,none⟩=false:=Q01 d.out.res 1
   have r2:(a.setCell ⟨B,0,none⟩ (.int .i64 y)).cell? ⟨w.heap.size,2,none⟩=some (.slice none 0 0):=Q00 d.out.res 2 _ rfl;have af:(a.setCell ⟨B,0,none⟩ (.int .i64 y)).frozen? ⟨w.heap.size,2,none⟩=false:=Q01 d.out.res 2;have t:=Q02 (d.out.done J F);clear b s d;go_wp2;refine bodyPost_ret (v:=.agg #[.int .i64 y,.slice U T c2,.slice oQ n u]) (by simp[results,Tryz.results82,go_sem,r0,r1,r2]) rfl ⟨_,_,rfl,t.out.1,t.out.2.1,t.out.2.2⟩
  by_cases e1:x=1
  ·subst e1
   go_wp2_with fail;refine(Qdq k j b.out.dr.cur (b.out.dr.lt J)).mono ?_;rintro e a ⟨v5,L5,rfl,au,aN,p,q⟩;obtain⟨o5,c5,e5,_⟩:=ownL.open (L:=Q16) au;subst e5;obtain⟨m5,aA⟩:∃m,L5.length=m:=⟨_,rfl⟩;rw[aA]at aN au ⊢;have s:=Q02 (b.out.draw p q z C A);have d:=Q02 (s.out.backs G.out aN aA.symm J aB aw (Kdq aO (KIq (KEq b.out.box))) au);clear au aA;have y2:a.cell? ⟨B,1,none⟩=some (.slice U T c2):=Q00 s.out.box 1 _ rfl;have aG:a.frozen? ⟨B,1,none⟩=false:=Q01 s.out.box 1
   have q0:(a.setCell ⟨B,1,none⟩ (.slice o5 m5 c5)).cell? ⟨B,0,none⟩=some (.int .i64 key):=Q00 d.out.box 0 _ rfl;have q1:(a.setCell ⟨B,1,none⟩ (.slice o5 m5 c5)).cell? ⟨B,1,none⟩=some (.slice o5 m5 c5):=Q00 d.out.box 1 _ rfl;have q2:(a.setCell ⟨B,1,none⟩ (.slice o5 m5 c5)).cell? ⟨B,2,none⟩=some (.slice oQ n u):=Q00 d.out.box 2 _ rfl;have r0:(a.setCell ⟨B,1,none⟩ (.slice o5 m5 c5)).cell? ⟨w.heap.size,0,none⟩=some (.int .i64 0):=Q00 d.out.res 0 _ rfl;have ad:(a.setCell ⟨B,1,none⟩ (.slice o5 m5 c5)).frozen? ⟨w.heap.size,0,none⟩=false:=Q01 d.out.res 0
   have r1:(a.setCell ⟨B,1,none⟩ (.slice o5 m5 c5)).cell? ⟨w.heap.size,1,none⟩=some (.slice none 0 0):=Q00 d.out.res 1 _ rfl;have ae:(a.setCell ⟨B,1,none⟩ (.slice o5 m5 c5)).frozen? ⟨w.heap.size,1,none⟩=false:=Q01 d.out.res 1;have r2:(a.setCell ⟨B,1,none⟩ (.slice o5 m5 c5)).cell? ⟨w.heap.size,2,none⟩=some (.slice none 0 0):=Q00 d.out.res 2 _ rfl;have af:(a.setCell ⟨B,1,none⟩ (.slice o5 m5 c5)).frozen? ⟨w.heap.size,2,none⟩=false:=Q01 d.out.res 2;have t:=Q02 (d.out.done J F);clear b s d;go_wp2
   refine bodyPost_ret (v:=.agg #[.int .i64 key,.slice o5 m5 c5,.slice oQ n u]) (by simp[results,Tryz.results82,go_sem,r0,r1,r2]) rfl ⟨_,_,rfl,t.out.1,t.out.2.1,t.out.2.2⟩
  by_cases e2:x=2
  ·subst e2
   have s:=b;have d:=Q02 (s.out.nil HL.out J aB aw);have y2:j.cell? ⟨B,2,none⟩=some (.slice oQ n u):=Q00 s.out.box 2 _ rfl;have aG:j.frozen? ⟨B,2,none⟩=false:=Q01 s.out.box 2;have q0:(j.setCell ⟨B,2,none⟩ (.slice none 0 0)).cell? ⟨B,0,none⟩=some (.int .i64 key):=Q00 d.out.box 0 _ rfl;have q1:(j.setCell ⟨B,2,none⟩ (.slice none 0 0)).cell? ⟨B,1,none⟩=some (.slice U T c2):=Q00 d.out.box 1 _ rfl;have q2:(j.setCell ⟨B,2,none⟩ (.slice none 0 0)).cell? ⟨B,2,none⟩=some (.slice none 0 0):=Q00 d.out.box 2 _ rfl
   have r0:(j.setCell ⟨B,2,none⟩ (.slice none 0 0)).cell? ⟨w.heap.size,0,none⟩=some (.int .i64 0):=Q00 d.out.res 0 _ rfl;have ad:(j.setCell ⟨B,2,none⟩ (.slice none 0 0)).frozen? ⟨w.heap.size,0,none⟩=false:=Q01 d.out.res 0;have r1:(j.setCell ⟨B,2,none⟩ (.slice none 0 0)).cell? ⟨w.heap.size,1,none⟩=some (.slice none 0 0):=Q00 d.out.res 1 _ rfl;have ae:(j.setCell ⟨B,2,none⟩ (.slice none 0 0)).frozen? ⟨w.heap.size,1,none⟩=false:=Q01 d.out.res 1;have r2:(j.setCell ⟨B,2,none⟩ (.slice none 0 0)).cell? ⟨w.heap.size,2,none⟩=some (.slice none 0 0):=Q00 d.out.res 2 _ rfl
   have af:(j.setCell ⟨B,2,none⟩ (.slice none 0 0)).frozen? ⟨w.heap.size,2,none⟩=false:=Q01 d.out.res 2;have t:=Q02 (d.out.done J F);clear b s d;go_wp2;refine bodyPost_ret (v:=.agg #[.int .i64 key,.slice U T c2,.slice none 0 0]) (by simp[results,Tryz.results82,go_sem,r0,r1,r2]) rfl ⟨_,_,rfl,t.out.1,t.out.2.1,t.out.2.2⟩
  ·have ab:Hid (isCur k j):=b.out.dr.cur
   have ac:Hid (k < j.heap.size):=b.out.dr.lt J;obtain⟨g,cg,aS⟩:=Q2S b.out.ow (by rw[b.out.gt.1,HN.out];omega);injection aS with ho1 hA1 hA2;clear hA1 hA2;subst ho1;obtain⟨i,hi⟩:∃i,n=i+1:=⟨n - 1,by omega⟩
   have I:i < aC.length:=by rw[HN.out];omega
   obtain⟨o3,c3,aZ,e3,k1,k2⟩:=b.out.gt.2 i I;rw[(G.out.2.2 i I).1]at e3 k1 k2;obtain⟨f,aV,aR⟩:=Q2S k1 (by rw[k2.len];decide);injection aR with ho3 hA1 hA2;clear hA1 hA2;subst ho3;have ay:W0.heap.size<=g/\g < j.heap.size:=b.out.ow.lt g rfl;have am:W0.heap.size<=f/\f < j.heap.size:=k1.lt f rfl
   have H:f≠B:=by
    rcases Q1R k1 b.out.box QiG with h|h
    ·cases h
    ·exact fun e=>h (by rw[e];rfl)
   have aW:g≠B:=by
    rcases Q1R b.out.ow b.out.box Qa4 with h|h
    ·cases h
    ·exact fun e=>h (by rw[e];rfl)
   have aa:hv hs i=.slice (some ⟨f,0,none⟩) 8 c3:=by unfold hv;rw[e3]
   have z2:j.cell? ⟨B,2,none⟩=some (.slice (some ⟨g,0,none⟩) n u):=Q00 b.out.box 2 _ rfl
   have zc:j.cell? ⟨g,i,none⟩=some (.slice (some ⟨f,0,none⟩) 8 c3):=by rw[<-aa];exact Q2T b.out.ow i (by rw[b.out.gt.1];exact I)
   have aQ:f≠g:=by
    rcases Q2n k1 b.out.ow QiL with h|h
    ·cases h
    ·exact fun e=>h (by rw[e];rfl)
   clear k1 k2 e3;have av:B < j.heap.size:=(KEq b.out.box)
   have al:f≠w.heap.size:=by omega
   have ax:f≠g:=aQ
   obtain⟨rfl,rfl⟩|⟨rfl,rfl⟩|⟨rfl,rfl⟩:(i=0/\n=1)\/(i=1/\n=2)\/(i=2/\n=3):=by omega
   ·have M:Hid (Calls Tryz.prog 55 #[.pointer (some ⟨k,0,none⟩),.slice (some ⟨j.heap.size,0,none⟩) 3 3] (j.alloc (.cells #[.int .i64 (-1),.int .i64 0,.int .i64 6] 3)).drew fun e w'=> ∃x,x∈([-1,0,6]:List Int)/\e=.returned (.int .i64 x)/\isCur k w'/\j.grownBy w' (some k)):=Q7h k [-1,0,6] j ab.out ac.out (by decide) (by decide)
    have X:j.drew.cell? ⟨B,2,none⟩=some (.slice (some ⟨g,0,none⟩) 1 u):=z2;have Z:j.drew.cell? ⟨g,0,none⟩=some (.slice (some ⟨f,0,none⟩) 8 c3):=zc
    have V:∀O,(j.alloc O).cell? ⟨B,2,none⟩=some (.slice (some ⟨g,0,none⟩) 1 u):=fun O=>bC (KBq.alloc (Kaq _) O) z2 av
    have Y:∀O,(j.alloc O).cell? ⟨g,0,none⟩=some (.slice (some ⟨f,0,none⟩) 8 c3):=fun O=>bC (KBq.alloc (Kaq _) O) zc ay.2
    have aP:IntKind.i64.wrap 0=0:=by first|rfl|decide
    go_wp2
    go_region_held3 (fun w'=>w'.cell? ⟨B,2,none⟩=some (.slice (some ⟨g,0,none⟩) 1 u)/\w'.cell? ⟨g,0,none⟩=some (.slice (some ⟨f,0,none⟩) 8 c3)) (first|with_reducible exact⟨z2,zc⟩|with_reducible exact⟨X,Z⟩|with_reducible exact⟨V _,Y _⟩|with_reducible exact⟨y2,yc⟩|with_reducible exact⟨D _,E _⟩|with_reducible exact P _ _|go_keep) (first|(go_at_call 55;refine(M.out).mono ?_;rintro e a ⟨r,R,rfl,p,q⟩;clear R;have J5:=b.out.draw p q z C A;have y2:=QeZ b.out p q z C A;have yc:=Qeh b.out p q z C A I aa;obtain⟨D,E,⟨u3,aj⟩,ai,N⟩:=Qeq J5 I aa G.out HL.out J (KIq F) H al am.1 r;have P:=Qes H ax D E;clear p q))
    obtain⟨m9,c⟩:=N.out;have q0:((a.alloc (.cells #[.int .i64 r,.int .i64 1] 3)).setCell ⟨f,2,none⟩ (.slice (some ⟨a.heap.size,0,none⟩) 2 2)).cell? ⟨B,0,none⟩=some (.int .i64 key):=Q00 c.box 0 _ rfl;have q1:((a.alloc (.cells #[.int .i64 r,.int .i64 1] 3)).setCell ⟨f,2,none⟩ (.slice (some ⟨a.heap.size,0,none⟩) 2 2)).cell? ⟨B,1,none⟩=some (.slice U T c2):=Q00 c.box 1 _ rfl;have q2:((a.alloc (.cells #[.int .i64 r,.int .i64 1] 3)).setCell ⟨f,2,none⟩ (.slice (some ⟨a.heap.size,0,none⟩) 2 2)).cell? ⟨B,2,none⟩=some (.slice (some ⟨g,0,none⟩) 1 u):=Q00 c.box 2 _ rfl
    have r0:((a.alloc (.cells #[.int .i64 r,.int .i64 1] 3)).setCell ⟨f,2,none⟩ (.slice (some ⟨a.heap.size,0,none⟩) 2 2)).cell? ⟨w.heap.size,0,none⟩=some (.int .i64 0):=Q00 c.res 0 _ rfl;have ad:((a.alloc (.cells #[.int .i64 r,.int .i64 1] 3)).setCell ⟨f,2,none⟩ (.slice (some ⟨a.heap.size,0,none⟩) 2 2)).frozen? ⟨w.heap.size,0,none⟩=false:=Q01 c.res 0;have r1:((a.alloc (.cells #[.int .i64 r,.int .i64 1] 3)).setCell ⟨f,2,none⟩ (.slice (some ⟨a.heap.size,0,none⟩) 2 2)).cell? ⟨w.heap.size,1,none⟩=some (.slice none 0 0):=Q00 c.res 1 _ rfl
    have ae:((a.alloc (.cells #[.int .i64 r,.int .i64 1] 3)).setCell ⟨f,2,none⟩ (.slice (some ⟨a.heap.size,0,none⟩) 2 2)).frozen? ⟨w.heap.size,1,none⟩=false:=Q01 c.res 1;have r2:((a.alloc (.cells #[.int .i64 r,.int .i64 1] 3)).setCell ⟨f,2,none⟩ (.slice (some ⟨a.heap.size,0,none⟩) 2 2)).cell? ⟨w.heap.size,2,none⟩=some (.slice none 0 0):=Q00 c.res 2 _ rfl;have af:((a.alloc (.cells #[.int .i64 r,.int .i64 1] 3)).setCell ⟨f,2,none⟩ (.slice (some ⟨a.heap.size,0,none⟩) 2 2)).frozen? ⟨w.heap.size,2,none⟩=false:=Q01 c.res 2;have t:=Q02 (c.done J F)
    clear b c N D E aj ai P J5 y2 yc z2 zc V Y X Z M G HN ab ac;go_wp2;refine bodyPost_ret (v:=.agg #[.int .i64 key,.slice U T c2,.slice (some ⟨g,0,none⟩) 1 u]) (by simp[results,Tryz.results82,go_sem,r0,r1,r2]) rfl ⟨_,_,rfl,t.out.1,t.out.2.1,t.out.2.2⟩
   ·have M:Hid (Calls Tryz.prog 55 #[.pointer (some ⟨k,0,none⟩),.slice (some ⟨j.heap.size,0,none⟩) 3 3] (j.alloc (.cells #[.int .i64 (-1),.int .i64 0,.int .i64 6] 3)).drew fun e w'=> ∃x,x∈([-1,0,6]:List Int)/\e=.returned (.int .i64 x)/\isCur k w'/\j.grownBy w' (some k)):=Q7h k [-1,0,6] j ab.out ac.out (by decide) (by decide)
    have X:j.drew.cell? ⟨B,2,none⟩=some (.slice (some ⟨g,0,none⟩) 2 u):=z2;have Z:j.drew.cell? ⟨g,1,none⟩=some (.slice (some ⟨f,0,none⟩) 8 c3):=zc
    have V:∀O,(j.alloc O).cell? ⟨B,2,none⟩=some (.slice (some ⟨g,0,none⟩) 2 u):=fun O=>bC (KBq.alloc (Kaq _) O) z2 av
    have Y:∀O,(j.alloc O).cell? ⟨g,1,none⟩=some (.slice (some ⟨f,0,none⟩) 8 c3):=fun O=>bC (KBq.alloc (Kaq _) O) zc ay.2
    have aP:IntKind.i64.wrap 1=1:=by first|rfl|decide
    go_wp2
    go_region_held3 (fun w'=>w'.cell? ⟨B,2,none⟩=some (.slice (some ⟨g,0,none⟩) 2 u)/\w'.cell? ⟨g,1,none⟩=some (.slice (some ⟨f,0,none⟩) 8 c3)) (first|with_reducible exact⟨z2,zc⟩|with_reducible exact⟨X,Z⟩|with_reducible exact⟨V _,Y _⟩|with_reducible exact⟨y2,yc⟩|with_reducible exact⟨D _,E _⟩|with_reducible exact P _ _|go_keep) (first|(go_at_call 55;refine(M.out).mono ?_;rintro e a ⟨r,R,rfl,p,q⟩;clear R;have J5:=b.out.draw p q z C A;have y2:=QeZ b.out p q z C A;have yc:=Qeh b.out p q z C A I aa;obtain⟨D,E,⟨u3,aj⟩,ai,N⟩:=Qeq J5 I aa G.out HL.out J (KIq F) H al am.1 r;have P:=Qes H ax D E;clear p q))
    obtain⟨m9,c⟩:=N.out;have q0:((a.alloc (.cells #[.int .i64 r,.int .i64 1] 3)).setCell ⟨f,2,none⟩ (.slice (some ⟨a.heap.size,0,none⟩) 2 2)).cell? ⟨B,0,none⟩=some (.int .i64 key):=Q00 c.box 0 _ rfl;have q1:((a.alloc (.cells #[.int .i64 r,.int .i64 1] 3)).setCell ⟨f,2,none⟩ (.slice (some ⟨a.heap.size,0,none⟩) 2 2)).cell? ⟨B,1,none⟩=some (.slice U T c2):=Q00 c.box 1 _ rfl;have q2:((a.alloc (.cells #[.int .i64 r,.int .i64 1] 3)).setCell ⟨f,2,none⟩ (.slice (some ⟨a.heap.size,0,none⟩) 2 2)).cell? ⟨B,2,none⟩=some (.slice (some ⟨g,0,none⟩) 2 u):=Q00 c.box 2 _ rfl
    have r0:((a.alloc (.cells #[.int .i64 r,.int .i64 1] 3)).setCell ⟨f,2,none⟩ (.slice (some ⟨a.heap.size,0,none⟩) 2 2)).cell? ⟨w.heap.size,0,none⟩=some (.int .i64 0):=Q00 c.res 0 _ rfl;have ad:((a.alloc (.cells #[.int .i64 r,.int .i64 1] 3)).setCell ⟨f,2,none⟩ (.slice (some ⟨a.heap.size,0,none⟩) 2 2)).frozen? ⟨w.heap.size,0,none⟩=false:=Q01 c.res 0;have r1:((a.alloc (.cells #[.int .i64 r,.int .i64 1] 3)).setCell ⟨f,2,none⟩ (.slice (some ⟨a.heap.size,0,none⟩) 2 2)).cell? ⟨w.heap.size,1,none⟩=some (.slice none 0 0):=Q00 c.res 1 _ rfl
    have ae:((a.alloc (.cells #[.int .i64 r,.int .i64 1] 3)).setCell ⟨f,2,none⟩ (.slice (some ⟨a.heap.size,0,none⟩) 2 2)).frozen? ⟨w.heap.size,1,none⟩=false:=Q01 c.res 1;have r2:((a.alloc (.cells #[.int .i64 r,.int .i64 1] 3)).setCell ⟨f,2,none⟩ (.slice (some ⟨a.heap.size,0,none⟩) 2 2)).cell? ⟨w.heap.size,2,none⟩=some (.slice none 0 0):=Q00 c.res 2 _ rfl;have af:((a.alloc (.cells #[.int .i64 r,.int .i64 1] 3)).setCell ⟨f,2,none⟩ (.slice (some ⟨a.heap.size,0,none⟩) 2 2)).frozen? ⟨w.heap.size,2,none⟩=false:=Q01 c.res 2;have t:=Q02 (c.done J F)
    clear b c N D E aj ai P J5 y2 yc z2 zc V Y X Z M G HN ab ac;go_wp2;refine bodyPost_ret (v:=.agg #[.int .i64 key,.slice U T c2,.slice (some ⟨g,0,none⟩) 2 u]) (by simp[results,Tryz.results82,go_sem,r0,r1,r2]) rfl ⟨_,_,rfl,t.out.1,t.out.2.1,t.out.2.2⟩
   ·have M:Hid (Calls Tryz.prog 55 #[.pointer (some ⟨k,0,none⟩),.slice (some ⟨j.heap.size,0,none⟩) 3 3] (j.alloc (.cells #[.int .i64 (-1),.int .i64 0,.int .i64 6] 3)).drew fun e w'=> ∃x,x∈([-1,0,6]:List Int)/\e=.returned (.int .i64 x)/\isCur k w'/\j.grownBy w' (some k)):=Q7h k [-1,0,6] j ab.out ac.out (by decide) (by decide)
    have X:j.drew.cell? ⟨B,2,none⟩=some (.slice (some ⟨g,0,none⟩) 3 u):=z2;have Z:j.drew.cell? ⟨g,2,none⟩=some (.slice (some ⟨f,0,none⟩) 8 c3):=zc
    have V:∀O,(j.alloc O).cell? ⟨B,2,none⟩=some (.slice (some ⟨g,0,none⟩) 3 u):=fun O=>bC (KBq.alloc (Kaq _) O) z2 av
    have Y:∀O,(j.alloc O).cell? ⟨g,2,none⟩=some (.slice (some ⟨f,0,none⟩) 8 c3):=fun O=>bC (KBq.alloc (Kaq _) O) zc ay.2
    have aP:IntKind.i64.wrap 2=2:=by first|rfl|decide
    go_wp2
    go_region_held3 (fun w'=>w'.cell? ⟨B,2,none⟩=some (.slice (some ⟨g,0,none⟩) 3 u)/\w'.cell? ⟨g,2,none⟩=some (.slice (some ⟨f,0,none⟩) 8 c3)) (first|with_reducible exact⟨z2,zc⟩|with_reducible exact⟨X,Z⟩|with_reducible exact⟨V _,Y _⟩|with_reducible exact⟨y2,yc⟩|with_reducible exact⟨D _,E _⟩|with_reducible exact P _ _|go_keep) (first|(go_at_call 55;refine(M.out).mono ?_;rintro e a ⟨r,R,rfl,p,q⟩;clear R;have J5:=b.out.draw p q z C A;have y2:=QeZ b.out p q z C A;have yc:=Qeh b.out p q z C A I aa;obtain⟨D,E,⟨u3,aj⟩,ai,N⟩:=Qeq J5 I aa G.out HL.out J (KIq F) H al am.1 r;have P:=Qes H ax D E;clear p q))
    obtain⟨m9,c⟩:=N.out;have q0:((a.alloc (.cells #[.int .i64 r,.int .i64 1] 3)).setCell ⟨f,2,none⟩ (.slice (some ⟨a.heap.size,0,none⟩) 2 2)).cell? ⟨B,0,none⟩=some (.int .i64 key):=Q00 c.box 0 _ rfl;have q1:((a.alloc (.cells #[.int .i64 r,.int .i64 1] 3)).setCell ⟨f,2,none⟩ (.slice (some ⟨a.heap.size,0,none⟩) 2 2)).cell? ⟨B,1,none⟩=some (.slice U T c2):=Q00 c.box 1 _ rfl;have q2:((a.alloc (.cells #[.int .i64 r,.int .i64 1] 3)).setCell ⟨f,2,none⟩ (.slice (some ⟨a.heap.size,0,none⟩) 2 2)).cell? ⟨B,2,none⟩=some (.slice (some ⟨g,0,none⟩) 3 u):=Q00 c.box 2 _ rfl
    have r0:((a.alloc (.cells #[.int .i64 r,.int .i64 1] 3)).setCell ⟨f,2,none⟩ (.slice (some ⟨a.heap.size,0,none⟩) 2 2)).cell? ⟨w.heap.size,0,none⟩=some (.int .i64 0):=Q00 c.res 0 _ rfl;have ad:((a.alloc (.cells #[.int .i64 r,.int .i64 1] 3)).setCell ⟨f,2,none⟩ (.slice (some ⟨a.heap.size,0,none⟩) 2 2)).frozen? ⟨w.heap.size,0,none⟩=false:=Q01 c.res 0;have r1:((a.alloc (.cells #[.int .i64 r,.int .i64 1] 3)).setCell ⟨f,2,none⟩ (.slice (some ⟨a.heap.size,0,none⟩) 2 2)).cell? ⟨w.heap.size,1,none⟩=some (.slice none 0 0):=Q00 c.res 1 _ rfl
    have ae:((a.alloc (.cells #[.int .i64 r,.int .i64 1] 3)).setCell ⟨f,2,none⟩ (.slice (some ⟨a.heap.size,0,none⟩) 2 2)).frozen? ⟨w.heap.size,1,none⟩=false:=Q01 c.res 1;have r2:((a.alloc (.cells #[.int .i64 r,.int .i64 1] 3)).setCell ⟨f,2,none⟩ (.slice (some ⟨a.heap.size,0,none⟩) 2 2)).cell? ⟨w.heap.size,2,none⟩=some (.slice none 0 0):=Q00 c.res 2 _ rfl;have af:((a.alloc (.cells #[.int .i64 r,.int .i64 1] 3)).setCell ⟨f,2,none⟩ (.slice (some ⟨a.heap.size,0,none⟩) 2 2)).frozen? ⟨w.heap.size,2,none⟩=false:=Q01 c.res 2;have t:=Q02 (c.done J F)
    clear b c N D E aj ai P J5 y2 yc z2 zc V Y X Z M G HN ab ac;go_wp2;refine bodyPost_ret (v:=.agg #[.int .i64 key,.slice U T c2,.slice (some ⟨g,0,none⟩) 3 u]) (by simp[results,Tryz.results82,go_sem,r0,r1,r2]) rfl ⟨_,_,rfl,t.out.1,t.out.2.1,t.out.2.2⟩
theorem Qe0 (a:List Int) (x y:Int):y∈Q86 a x↔y∈a\/y=x:=by
 unfold Q86
 by_cases h:a.contains x=true
 ·rw[if_pos h]
  have b:x∈a:=by simpa using h
  exact⟨fun h=> .inl h,fun h=>h.elim id (fun e=>by rw[e];exact b)⟩
 ·rw[if_neg h];simp
theorem QcO (l:List Int):∀(b:List Int) (y:Int),y∈Q2M b l↔y∈b\/y∈l:=by
 induction l with
 |nil=>intro b y;simp[Q2M]
 |cons a l ih=>
  intro b y
  show y∈Q2M (Q86 b a) l↔_
  rw[ih,Qe0];simp[or_assoc]
theorem QaJ (b:Nat) (R:List (List (List Int))):∀(c:List Int) (y:Int),y∈R.foldl (fun c t=>Q2M c (t.getD b [])) c↔y∈c\/∃t∈R,y∈t.getD b []:=by
 induction R with
 |nil=>intro c y;simp
 |cons a R ih=>
  intro c y;rw[List.foldl_cons,ih,QcO]
  constructor
  ·rintro((h|h)|⟨t,d,h2⟩)
   ·exact .inl h
   ·exact .inr ⟨a,by simp,h⟩
   ·exact .inr ⟨t,by simp[d],h2⟩
  ·rintro(h|⟨t,d,h2⟩)
   ·exact .inl (.inl h)
   ·rcases List.mem_cons.1 d with e|d
    ·subst e;exact .inl (.inr h2)
    ·exact .inr ⟨t,d,h2⟩
theorem QbA {c:List Int} (x:Int) (h:c.Nodup):(Q86 c x).Nodup:=by
 unfold Q86
 by_cases hc:c.contains x=true
 ·rw[if_pos hc];exact h
 ·rw[if_neg hc]
  have g:x∉c:=by simpa using hc
  rw[List.nodup_append];exact⟨h,by simp,fun a f b d e=>by simp at d;subst d;subst e;exact g f⟩
theorem Qat (l:List Int):∀{out:List Int},out.Nodup->(Q2M out l).Nodup:=by
 induction l with
 |nil=>intro out h;exact h
 |cons a l ih=>intro out h;exact ih (QbA a h)
theorem Q8g (b:Nat) (R:List (List (List Int))):∀{c:List Int},c.Nodup->(R.foldl (fun c t=>Q2M c (t.getD b [])) c).Nodup:=by
 induction R with
 |nil=>intro c h;exact h
 |cons a R ih=>intro c h;exact ih (Qat _ h)
theorem Q9c:∀(n:Nat) (l:List Int),l.Nodup->(∀x∈l,0<=x/\x < (n:Int))->l.length<=n
 |0,l,_,h=>by
  cases l with
  |nil=>simp
  |cons a l=>have:=h a (by simp);omega
 |n+1,l,hd,h=>by
  by_cases hn:((n:Int))∈l
  ·have f:=Q9c n (l.erase (n:Int)) (hd.erase _) (fun x c=>by
    have b:=(List.Nodup.mem_erase_iff hd).1 c;have:=h x b.2;have d:=b.1
    omega)
   rw[List.length_erase_of_mem hn]at f;omega
  ·have f:=Q9c n l hd (fun x c=>by
    have:=h x c
    have d:x≠(n:Int):=fun e=>hn (e ▸ c)
    omega)
   omega
theorem QfP {l:List Int} (h:Q0P l=true):∀x∈l,0<=x/\x < 6:=by
 intro x c;obtain⟨j,a,rfl⟩:=List.getElem_of_mem c
 cases hid:idB (l[j])with
 |true=>unfold idB at hid;simp at hid;omega
 |false=>
  have b:=QcM (l:=l) a (by rw[KFq,KGq a];exact hid);rw[b]at h
  cases h
theorem RiV.grow {α:Type} {L:Lay α} {a b:Nat} {w d:World} {v:Value} {l:List α} {r:Option Nat} (h:RiV L a b w v l) (c:w.grownBy d r) (f:∀g,r=some g->g < a\/b<=g):RiV L a b d v l:=by
 cases r with
 |none=>exact h.step (Stp.grown (lo:=0) (hi:=0) c (fun b e=>by cases e)) (.inl (Kcq _))
 |some g=>exact h.step (Stp.grown (lo:=g) (hi:=g+1) c (fun b e=>by injection e with e;omega)) (by have:=f g rfl;omega)
theorem Qh1 (f:Pt) (b:Nat) (h:b < 8):(ptA f)[b * 3]? =some (.bool (f b).1)/\(ptA f)[b * 3+1]? =some (.int .i64 (f b).2.1)/\(ptA f)[b * 3+2]? =some (.int .i64 (f b).2.2):=by
 have a:∀j,j < 3->(ptA f)[b * 3+j]? =(Qgs.cs (((List.range 8).map f).getD b Qgs.d))[j]? :=fun j c=>by
  have:=Q4A Qgs ((List.range 8).map f) b j (by simpa using h) c;rw[show Qgs.k=3 from rfl]at this;unfold ptA ptL;rw[List.getElem?_toArray];exact this
 have e:((List.range 8).map f).getD b Qgs.d=f b:=by simp[h]
 rw[e]at a;exact⟨a 0 (by decide),a 1 (by decide),a 2 (by decide)⟩
theorem Qhx (R:List (List (List Int))) (i:Nat) (h:i < R.length):(R.map Q30).getD i ptZ=Q30 (R.getD i []):=by simp[h]
theorem Q6i (v:Value) (m:Pm) (q:Int) (w:World) (hR:Q4P w.heap.size w v m) (hf:Q2q m):
  Calls Tryz.prog 92 #[v,.int .i64 q] w fun e w'=> ∃v',e=.returned v'/\Q9U w' w.heap.size v' (QdR m q)/\Below w.heap.size w w':=by
 have s:=Q02 (show QdR m q=if(Q1M m && decide (0<=q) && decide (q < 8))=true then Q3b m.ring q.toNat else[]from rfl);have am:=Q02 (fun h:Q1M m=true=>Q1r h);obtain⟨vb,vr,rfl,aC,rr⟩:=hR;obtain⟨o,c,rfl,r⟩:=aC.open;obtain⟨oR,cR,rfl⟩:=RiR.len rr;obtain⟨key,l,a⟩:=m;dsimp only at *;clear aC;obtain⟨W0,af⟩:∃W,(w.alloc (.cells #[.int .i64 key,.slice o l.length c,.slice oR a.length cR] 29))=W:=⟨_,rfl⟩;have B:=alb0v0v1 af;have X:=Q02 B;clear B;have zz:=alz0v0v1 af;obtain⟨z0,z1,z2⟩:=alc3v0v1 af
 have au:=Q02 (Q7x key o c l oR cR a a.length rfl W0 ((r.kept X.out (Kaq _)).le X.out.size) (RiR.mon.go (RiR.stp.go rr (Stp.of (lo:=0) (hi:=0) X.out) (.inl (Kcq _))) (Kaq _) X.out.size) hf);have u:=Q02 (fun W=>Q2l q W);clear r rr;go_enter Tryz.func92,Tryz.ntmps92;go_wp2_with fail;refine au.out.mono ?_;rintro e v1 ⟨vP,rfl,h1,h2,hb⟩;have p:=Q02 (X.out.trans (hb.mono X.out.size));clear hb au X z0 z1 z2 zz
 cases hp:Q1M ⟨key,l,a⟩with
 |false=>
  rw[hp]at s;have e2:=h2 hp;subst e2;clear h1 h2;go_wp2;go_ret;exact⟨_,rfl,by rw[s.out];exact KLq _ _ _ _,p.out.alloc p.out.size _⟩
 |true=>
  rw[hp]at s;obtain⟨o2,c2,e2,U⟩:=h1 hp;have HF:=Q02 (am.out hp);subst e2;have aK:=Q02 (ownL.rds (L:=Q1T) U);clear h1 h2 am U hp
  by_cases h0:q < 0
  ·have T:(decide (0<=q) && decide (q < 8))=false:=by simp;omega
   rw[T]at u;clear T;go_wp2_with (first|(go_at_call 143;refine(u.out _).mono ?_;rintro e w1 ⟨rfl,rfl⟩));go_ret;exact⟨_,rfl,by rw[s.out,if_neg (by simp;omega)];exact KLq _ _ _ _,p.out.alloc p.out.size _⟩
  by_cases h8:8<=q
  ·have T:(decide (0<=q) && decide (q < 8))=false:=by simp;omega
   rw[T]at u;clear T;go_wp2_with (first|(go_at_call 143;refine(u.out _).mono ?_;rintro e w1 ⟨rfl,rfl⟩));go_ret;exact⟨_,rfl,by rw[s.out,if_neg (by simp;omega)];exact KLq _ _ _ _,p.out.alloc p.out.size _⟩
  obtain⟨b,rfl⟩:∃b:Nat,q=(b:Int):=⟨q.toNat,by omega⟩
  have aw:b < 8:=by omega
  have aR:(b:Int) < 8:=by omega
  have T:(decide (0<=(b:Int)) && decide ((b:Int) < 8))=true:=by simp;omega
  rw[T]at u;have al:=Q02 (show QdR ⟨key,l,a⟩ (b:Int)=Q3b a b by rw[s.out,if_pos (by simp;omega)];simp);clear T s h0 h8;obtain⟨n,hn⟩:∃n,a.length=n:=⟨_,rfl⟩;rw[hn];have aq:=Q02 hn
  have aY:n<=3:=by rw[<-hn];exact HF.out.2.2.2.1
  clear hn;obtain⟨P,ag⟩:∃W,v1.alloc (.cells #[.int .i64 key,.slice o l.length c,.slice o2 n c2] 127)=W:=⟨_,rfl⟩;have ai:=alb0v0v1 ag;have zz:=alz0v0v1 ag
  have z2:P.cell? ⟨v1.heap.size,2,none⟩=some (.slice o2 n c2):=by rw[<-ag];simp[go_sem]
  have Y:=Q02 (p.out.trans (ai.mono p.out.size));have HV:=Q02 ai;clear ai;go_wp2_with (first|(go_at_call 143;refine(u.out _).mono ?_;rintro e w1 ⟨rfl,rfl⟩))
  go_loopw [7,27] (fun ov iv wr=> ∃i:Nat,i<=n/\iv=.int .i64 (i:Int)/\Hid (Q9U wr P.heap.size ov (Q3b (a.take i) b))/\(Q3b (a.take i) b).length<=2 * i/\Hid (Below P.heap.size P wr))
   (fun _ iv _=>n - (intOf iv).toNat)
  case atStart=>exact⟨0,Kcq _,rfl,KLq _ _ _ _,by simp[Q3b],KBq⟩
  case round=>
   rename World=>wr
   rename_i ov _
   obtain⟨i,aW,rfl,HO,hL,A⟩:=hrel
   by_cases hlt:i < n
   ·have aT:(i:Int) < (n:Int):=by omega
    have J:i < a.length:=by rw[aq.out];exact hlt
    have av:=Q02 (aK.out.kept (HV.out.trans (A.out.mono HV.out.size)) (Kaq _))
    rcases av.out with hh|⟨b1,off,rfl,aV,V⟩
    ·have:(a.map Q30).length=0:=by rw[hh];rfl
     rw[List.length_map]at this;omega
    have D:=Q02 (RdL.range V i (by rw[List.length_map];exact J));have ac:=Q02 (QdD a b i J);have t:=(Q4K (HF.out.2.2.2.2 i J)).2 b aw;clear V av;rw[Qhx a i J]at D;obtain⟨f,aj⟩:∃f,Q30 (a.getD i [])=f:=⟨_,rfl⟩;rw[aj]at D;have an:=Q02 (show Q2N (f b)=(a.getD i []).getD b []by rw[<-aj];exact Q4p t);have aD:=Q9D t;clear aj t;obtain⟨row,aB⟩:∃row,(a.getD i []).getD b []=row:=⟨_,rfl⟩;rw[aB]at an aD ac;clear aB;obtain⟨F,ax⟩:∃q,Q3b (a.take i) b=q:=⟨_,rfl⟩;rw[ax]at HO hL ac;clear ax
    obtain⟨R,ah⟩:∃W,wr.alloc (.cells (ptA f) 188)=W:=⟨_,rfl⟩;have G:=alb0v0v1 ah
    have O:R.heap[wr.heap.size]? =some (.cells (ptA f) 188 (0,0)):=by rw[<-ah];exact World.alloc_heap_new wr _
    have N:=Qh1 f b aw;have y0:R.cell? ⟨wr.heap.size,b * 3,none⟩=some (.bool (f b).1):=Q00 O _ _ N.1;have y1:R.cell? ⟨wr.heap.size,b * 3+1,none⟩=some (.int .i64 (f b).2.1):=Q00 O _ _ N.2.1;have y2:R.cell? ⟨wr.heap.size,b * 3+2,none⟩=some (.int .i64 (f b).2.2):=Q00 O _ _ N.2.2;have ao:=Q02 (Qcw (f b) R);have aZ:=G.size;have Z:=Q02 (A.out.trans (G.mono A.out.size));have ap:=Q02 (fun g e=>(HO.out.lt g e).2);have j:=Q02 (Q03 HO.out G);clear G O N HO A
    go_wp2_with (first|(refine wpList_load_mid rfl 188 (.tmp 29) rfl b1 (off+i * 24) rfl (ptL f) _ D.out ptU rfl ptI ?_)|(refine Q0M rfl (.tmp 9) (.tmp 30) rfl wr.heap.size f ptZ rfl rfl (World.alloc_heap_new wr _) ?_;rw[World.setRow_alloc_new,ah])|fail);refine ao.out.mono ?_;rintro e v3 ⟨o4,c4,rfl,aF,H⟩;have E:=Q02 (InRow.ri (InRow.of aF));rw[an.out]at E ⊢;have a0:=H.size;have ar:=Q02 (Q03 j.out H);have ak:=Q02 (Z.out.trans (H.mono Z.out.size));clear aF H j Z ao y0 y1 y2;obtain⟨m,hm⟩:∃r,row.length=r:=⟨_,rfl⟩;rw[hm]at aD E ⊢;have HM:=Q02 hm;clear hm
    go_wp2
    go_loopw [7,36] (fun ov kv wq=> ∃k:Nat,k<=m/\kv=.int .i64 (k:Int)/\Hid (Q9U wq P.heap.size ov (Q2M F (row.take k)))/\(Q2M F (row.take k)).length<=2 * i+k/\Hid (Below P.heap.size P wq)/\Hid (RiV Q2m R.heap.size v3.heap.size wq (.slice o4 m c4) row)/\v3.heap.size<=wq.heap.size/\Hid (∀g,ov.ownBlock=some g->g < R.heap.size\/v3.heap.size<=g))
     (fun _ kv _=>m - (intOf kv).toNat)
    case atStart=>exact⟨0,Kcq _,rfl,ar.out,by simpa[Q2M]using hL,ak.out,E.out,Kaq _,fun g e=> .inl (by have:=ap.out g e;omega)⟩
    case round=>
     rename World=>wq
     rename_i a2 _
     obtain⟨k,aX,rfl,j,ae,z,ab,aP,aa⟩:=hrel;clear ar ak E D ap
     by_cases hlk:k < m
     ·have aS:(k:Int) < (m:Int):=by omega
      have M:k < row.length:=by rw[HM.out];exact hlk
      obtain⟨o5,c5,e6,aO⟩:=RiV.open ab.out;injection e6 with e7 e8 e9;subst e7
      rcases aO with hh|⟨b3,aE,rfl,aU,C⟩
      ·rw[hh]at M;exact absurd M (KMq _)
      have aN:wq.cell? ⟨b3,aE+k,none⟩=some (.int .i64 (row.getD k 0)):=RdL.int C k M;have d:=Q02 (Qbm F row k M);clear C e8 e9;obtain⟨y,hy⟩:∃y,row.getD k 0=y:=⟨_,rfl⟩;rw[hy]at aN d;clear hy;obtain⟨ad,ay⟩:∃q,Q2M F (row.take k)=q:=⟨_,rfl⟩;rw[ay]at j ae d;clear ay;obtain⟨oo,co,e5,aA⟩:=ownL.open (L:=Q2m) j.out;subst e5;have HH:=Q02 (QaF oo co ad y wq aA (by omega));clear aA;go_wp2_with fail;refine HH.out.mono ?_;rintro e w4 ⟨rfl,rfl⟩;clear HH
      cases hh:ad.contains y with
      |true=>
       have HY:=Q02 (QeJ hh);go_wp2;go_roundw
       case rel=>exact⟨k+1,by omega,by go_num,by rw[d.out,HY.out];exact j.out,by rw[d.out,HY.out];omega,z.out,ab.out,aP,aa.out⟩
       case measure=>simp[intOf];omega
      |false=>
       have HY:=Q02 (Qg3 hh);have a1:=z.out.size;have HA:=Q02 (World.ownsRow.alloc j.out (.cells #[.int .i64 y] 3));have aM:=Q02 (ab.out.step (Stp.of (lo:=0) (hi:=0) ((Below.refl w4.heap.size w4).alloc (Kaq _) (.cells #[.int .i64 y] 3))) (.inl (Kcq _)));go_wp2_with (first|(at_builtin;refine Q07 Qiu rfl (.tmp 44) (.tmp 46) rfl P.heap.size _ ad rfl HA.out (some ⟨w4.heap.size,0,none⟩) 1 _ [y] 1 rfl rfl (by simp) QhV (by simp;omega) (by simp;omega) ?_));intro v5 w5 az I x;have aG:=Q02 ((z.out.alloc z.out.size _).grown I (by simp;omega) (fun k h=>(HA.out.lt k h).1))
       have aJ:=Q02 az;have aL:=Q02 (aM.out.grow I aa.out)
       have aQ:v3.heap.size<=w5.heap.size:=by have:=I.size;simp at this;omega
       have aI:Hid (∀g,v5.ownBlock=some g->g < R.heap.size\/v3.heap.size<=g):=fun g e=>by
        rcases x with x|x
        ·rw[x]at e;exact aa.out g e
        ·rw[x]at e;have:=Option.some.inj e;omega
       clear I az x;go_wp2;go_roundw
       case rel=>exact⟨k+1,by omega,by go_num,by rw[d.out,HY.out];exact aJ.out,by rw[d.out,HY.out,List.length_append];simp;omega,aG.out,aL.out,aQ,aI.out⟩
       case measure=>simp[intOf];omega
     ·have e:k=m:=by omega
      subst e;rw[<-HM.out,List.take_length,<-ac.out]at j ae;go_wp2;go_roundw
      case rel=>exact⟨i+1,by omega,by go_num,j.out,by rw[HM.out]at ae;omega,z.out⟩
      case measure=>simp[intOf];omega
   ·have e:i=n:=by omega
    subst e;rw[<-aq.out,List.take_length]at HO;have aH:=Q02 (Y.out.trans (A.out.mono Y.out.size));go_wp2;go_ret;exact⟨_,rfl,by rw[al.out];exact Q04 HO.out Y.out.size,aH.out⟩
theorem QbK {ll:List (List Int)} (h:ll.length=8):Q10 ll ll=0:=by
 unfold Q10;rw[if_pos ⟨h,h⟩];exact Q3j 8 (fun i _=>rfl)
theorem RiK.cell {C:Nat} {w:World} {o:Option Addr} {n c:Nat} {l:List Bk} (h:RiV Q16 0 C w (.slice o n c) l) (j:Nat) (a:j < l.length):∃g off,o=some ⟨g,off,none⟩/\g < C/\w.cell? ⟨g,off+j * 3,none⟩=some (.int .i64 (l.getD j (0,0,false)).1)/\w.cell? ⟨g,off+j * 3+1,none⟩=some (.int .i64 (l.getD j (0,0,false)).2.1)/\w.cell? ⟨g,off+j * 3+2,none⟩=some (.bool (l.getD j (0,0,false)).2.2):=by
 obtain⟨k,i,e,r⟩:=RiV.open h;injection e with e1 _ _;subst e1
 rcases r with r|⟨b,off,f,d,r⟩
 ·subst r;exact absurd a (KMq _)
 ·exact⟨b,off,f,d,r j a 0 (by decide),r j a 1 (by decide),r j a 2 (by decide)⟩
theorem Qb1 (v1 v2:Value) (m:Pm) (w:World) (h1:Q4P w.heap.size w v1 m) (h2:Q4P w.heap.size w v2 m) (hf:Q2q m) (F:∀i,i < m.ring.length->(m.ring.getD i []).length=8):
  Calls Tryz.prog 25 #[v1,v2] w fun e w'=>e=.returned (.bool true)/\Below w.heap.size w w':=by
 obtain⟨ao,aq,rfl,q,r1⟩:=h1;obtain⟨ap,ar,rfl,r,r2⟩:=h2;obtain⟨o1,c1,rfl,_⟩:=q.open;obtain⟨o2,c2,rfl,_⟩:=r.open;obtain⟨ak,af,rfl⟩:=RiR.len r1;obtain⟨al,ag,rfl⟩:=RiR.len r2;obtain⟨ah,ai,aj,h,j⟩:=hf;have O:=Q02 q;have P:=Q02 r;have V:=Q02 r1;have X:=Q02 r2;have H8:=Q02 F;have R:=Q02 h;have T:=Q02 j;obtain⟨key,C⟩:∃x,m.key=x:=⟨_,rfl⟩;obtain⟨I,z⟩:∃x,m.l.length=x:=⟨_,rfl⟩;obtain⟨n,hn⟩:∃x,m.ring.length=x:=⟨_,rfl⟩;have U:=Q02 z;have HN:=Q02 hn;rw[C,z,hn];rw[z]at O P ah;rw[hn]at V X H8 R T ai
 clear C z hn q r r1 r2 F aj h j;obtain⟨W0,u⟩:∃W,((w.alloc (.cells #[.int .i64 key,.slice o1 I c1,.slice ak n af] 29)).alloc (.cells #[.int .i64 key,.slice o2 I c2,.slice al n ag] 29))=W:=⟨_,rfl⟩;have y:=alb0v0v2 u;have HB:=Q02 y;clear y;have zz:=alz0v0v2 u;obtain⟨z0,z1,z2⟩:=alc3v0v2 u;have zu:=alz0v1v2 u;obtain⟨u0,u1,u2⟩:=alc3v1v2 u;go_enter Tryz.func25,Tryz.ntmps25;go_wp2
 go_loopw [4,5] (fun rv iv wr=> ∃i:Nat,i<=I/\iv=.int .i64 (i:Int)/\rv=.bool false/\Hid (Below W0.heap.size W0 wr))
  (fun _ iv _=>I - (intOf iv).toNat)
 case atStart=>exact⟨0,Kcq _,rfl,rfl,KBq⟩
 case round=>
  rename World=>wr
  obtain⟨i,am,rfl,rfl,f⟩:=hrel;have ae:=bC f.out z1 zz;have L:=bC f.out z2 zz;have ad:=bC f.out u1 zu;have J:=bC f.out u2 zu;have B:=Kbq zz f.out.size;have A:=Kbq zu f.out.size;have c:=Q02 (HB.out.trans (f.out.mono HB.out.size))
  by_cases hlt:i < I
  ·have Z:(i:Int) < (I:Int):=by omega
   obtain⟨g1,f1,rfl,s,a0,M,N⟩:=RiK.cell O.out i (by rw[U.out];exact hlt);obtain⟨g2,f2,rfl,t,b0,b1,b2⟩:=RiK.cell P.out i (by rw[U.out];exact hlt);have G0:=Grown.cell ae B;have G1:=Grown.cell ad A;have Ga0:=Grown.cell (bC c.out a0 s) (Kbq s c.out.size);have Ga1:=Grown.cell (bC c.out M s) (Kbq s c.out.size);have Ga2:=Grown.cell (bC c.out N s) (Kbq s c.out.size);have Gb0:=Grown.cell (bC c.out b0 t) (Kbq t c.out.size);have Gb1:=Grown.cell (bC c.out b1 t) (Kbq t c.out.size)
   have Gb2:=Grown.cell (bC c.out b2 t) (Kbq t c.out.size);clear a0 M N b0 b1 b2;generalize m.l.getD i (0,0,false)=d at *;obtain⟨d0,d1,d2⟩:=d;dsimp only at Ga0 Ga1 Ga2 Gb0 Gb1 Gb2;go_wp2
   (refine Q09 (by kernel_rfl) (by kernel_rfl) ?_;intro aa;(repeat (go_big_quiet_step (fail)));(with_reducible refine wpQuiet_nil ?_);intro _ H;obtain⟨pq,G⟩:=H;subst G)
   have D:=Q02 (f.out.trans (pq.b.mono f.out.size));go_wp2;go_roundw
   case rel=>exact⟨i+1,by omega,by go_num,rfl,D.out⟩
   case measure=>simp[intOf];omega
  ·have e:i=I:=by omega
   subst e;go_wp2
   go_loopw [4,6] (fun rv iv wq=> ∃k:Nat,k<=n/\iv=.int .i64 (k:Int)/\rv=.bool false/\Hid (Below W0.heap.size W0 wq))
    (fun _ iv _=>n - (intOf iv).toNat)
   case atStart=>exact⟨0,Kcq _,rfl,rfl,f.out⟩
   case round=>
   rename World=>wq
   obtain⟨k,an,rfl,rfl,g⟩:=hrel;clear ae L ad J B A;have L:=bC g.out z2 zz;have J:=bC g.out u2 zu;have B:=Kbq zz g.out.size;have A:=Kbq zu g.out.size;have a:=Q02 (HB.out.trans (g.out.mono HB.out.size))
   by_cases hlt:k < n
   ·have Z:(k:Int) < (n:Int):=by omega
    obtain⟨b1,f1,w1,rfl,q,M,t1⟩:=RiRows.at V.out (Kaq _) k (by rw[HN.out];exact hlt);obtain⟨b2,f2,w2,rfl,r,N,t2⟩:=RiRows.at X.out (Kaq _) k (by rw[HN.out];exact hlt);have F:=H8.out k hlt;have h:=R.out k hlt;have j:=T.out k hlt;obtain⟨ll,Y⟩:∃x,m.ring.getD k []=x:=⟨_,rfl⟩;rw[Y]at t1 t2 F h j;obtain⟨o3,c3,rfl,ab⟩:=RiT.rd t1;obtain⟨o4,c4,rfl,ac⟩:=RiT.rd t2
    have E:=Q02 (fun p:Grown wq=>Q5K o3 o4 c3 c4 ll ll p.v ((ab.kept (a.out.trans (p.b.mono a.out.size)) (Kaq _)).le (a.out.trans (p.b.mono a.out.size)).size) ((ac.kept (a.out.trans (p.b.mono a.out.size)) (Kaq _)).le (a.out.trans (p.b.mono a.out.size)).size) h h j j);rw[QbK F]at E;rw[F]at E M N;have G0:=Grown.cell L B;have G1:=Grown.cell J A;have G2:=Grown.cell (bC a.out M q) (Kbq q a.out.size);have G3:=Grown.cell (bC a.out N r) (Kbq r a.out.size);clear M N t1 t2 ab ac Y F h j;go_wp2
    (refine Q09 (by kernel_rfl) (by kernel_rfl) ?_;intro aa;(repeat (go_big_quiet_step ((go_at_call 65;exact Q1w _ (E.out _)))));(with_reducible refine wpQuiet_nil ?_);intro _ H;obtain⟨pq,G⟩:=H;subst G)
    have D:=Q02 (g.out.trans (pq.b.mono g.out.size));go_wp2;go_roundw
    case rel=>exact⟨k+1,by omega,by go_num,rfl,D.out⟩
    case measure=>simp[intOf];omega
   ·have e:k=n:=by omega
    subst e;go_wp2;go_ret;exact⟨rfl,a.out⟩
end Go.Proofs.YtpneolgdghbinaaGreat
